"""Moments: how many deeds of each barter are done at some time while an account is carried out."""

from eitherbarter.errors import BadOrder, TooGreat
from eitherbarter.solving import combined
from eitherbarter.stocks import is_enough
from eitherbarter.tasks import check_good, step_on, task_of
from eitherbarter.words import is_number


def good_task(book, f, account):
    """The task of what should be an account that leads from f to a stock, in a book that must be good."""
    check_good(book)
    return task_of(book, f, account)


def stock_at(book, f, account, value):
    """The stock at a moment of the account, or None if the value is none."""
    return moment_stock(good_task(book, f, account), value)


def moment_stock(task, value):
    """The stock at a moment of the task, or None if the value is none."""
    if not isinstance(value, tuple) or len(value) != len(task.amounts):
        return None
    for number, amount in zip(value, task.amounts):
        if not is_number(number) or number > amount:
            return None
    stock = task.stock_after(value)
    return stock if is_enough(stock) else None


def is_moment(book, f, account, value):
    """Tells whether the value is a moment of the account."""
    return stock_at(book, f, account, value) is not None


def all_moments(book, f, account):
    """The ascending list of all moments of the account."""
    moments = []
    for level in levels_of(good_task(book, f, account), None):
        moments.extend(list(level))
    return sorted(moments)


def levels_of(task, bound):
    """The list of the dicts of the moments of 0, 1, .. deeds, with the stocks at them.

    TooGreat is raised if there are more moments than bound, if that is not None.
    """
    levels = []
    level = {task.first: task.start}
    many = 0
    while level:
        levels.append(level)
        many += len(level)
        if bound is not None and many > bound:
            raise TooGreat()
        level = next_level(task, level)
    return levels


def next_level(task, level):
    """The moments of one more deed than those of a level, with the stocks at them."""
    further = {}
    for moment, stock in level.items():
        for k in task.ready(moment, stock):
            later, behind = step_on(task, moment, stock, k)
            further[later] = behind
    return further


def next_names(book, f, account, value):
    """The list of the names of the barters whose deeds may come next at a moment."""
    task = good_task(book, f, account)
    stock = moment_stock(task, value)
    if stock is None:
        raise BadOrder(0)
    return [task.words[k] for k in task.ready(value, stock)]


def is_ample(book, f, account):
    """Tells whether f is ample for the account."""
    return is_enough(combined(1, f, -1, needed(book, f, account)))


def needed(book, f, account):
    """The tuple of how much all deeds of the account take of each good."""
    task = good_task(book, f, account)
    taken = (0,) * len(f)
    for amount, row in zip(task.amounts, task.rows):
        taken = combined(1, taken, amount, [max(0, -number) for number in row])
    return taken
