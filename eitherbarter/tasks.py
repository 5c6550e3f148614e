"""Tasks: the deeds of an account from a stock on.

A moment is a tuple that tells of each barter how many of its deeds are done.
"""

from eitherbarter.accounts import balance, direction_of
from eitherbarter.errors import BadAccount, NotGood
from eitherbarter.solving import combined, times_row
from eitherbarter.squares import square_of
from eitherbarter.stocks import is_enough


class Task:
    """What an account asks for from a stock on: of each barter its row, done as it asks, and how often."""

    def __init__(self, book, f, account):
        self.words = book.names()
        self.ways = [direction_of(number) for number in account]
        self.rows = [times_row(way, barter[1]) for way, barter in zip(self.ways, book.barters())]
        self.amounts = tuple([abs(number) for number in account])
        self.first = (0,) * len(account)
        self.start = f

    def stock_after(self, moment):
        """The row that the first stock and the deeds of the moment add up to."""
        row = self.start
        for number, step in zip(moment, self.rows):
            row = combined(1, row, number, step)
        return row

    def ready(self, moment, stock):
        """The list of the numbers of the barters of which a deed is left and can be done at the stock."""
        return [k for k in self.waiting(moment) if is_enough(combined(1, stock, 1, self.rows[k]))]

    def waiting(self, moment):
        """The list of the numbers of the barters of which a deed is left behind the moment."""
        return [k for k, amount in enumerate(self.amounts) if moment[k] < amount]

    def deed(self, number):
        """The deed of the barter with this number."""
        return (self.words[number], self.ways[number])


def check_good(book):
    """Raises NotGood with a mixed square, if the book is not good."""
    square = square_of(book)
    if square is not None:
        raise NotGood(square)


def task_of(book, f, account):
    """The task of what should be an account that leads from f to a stock."""
    if not is_enough(combined(1, f, 1, balance(book, account))):
        raise BadAccount(())
    return Task(book, f, account)


def one_more(moment, number):
    """The moment with one more deed of the barter with this number."""
    return moment[:number] + (moment[number] + 1,) + moment[number + 1:]


def step_on(task, moment, stock, number):
    """The moment, and the stock at it, behind one more deed of the barter with this number."""
    return one_more(moment, number), combined(1, stock, 1, task.rows[number])


def done_so_far(task):
    """The numbers of barters whose deeds are done one after another as far as it goes, the moment and the stock."""
    steps = []
    moment = task.first
    stock = task.start
    ready = task.ready(moment, stock)
    while ready:
        steps.append(ready[0])
        moment, stock = step_on(task, moment, stock, ready[0])
        ready = task.ready(moment, stock)
    return steps, moment, stock
