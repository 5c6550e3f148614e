"""Accounts carried out: ways from stock to stock, what may come next and last, and runs in every book."""

from eitherbarter.accounts import account_deeds, account_of, cost_of
from eitherbarter.books import are_barters, are_goods
from eitherbarter.deeds import is_deed, turned_deed
from eitherbarter.errors import BadDeed
from eitherbarter.scripts import first_bad, walked
from eitherbarter.solving import times_row
from eitherbarter.tasks import Task, check_good, done_so_far, task_of


def way(book, f, g):
    """Any script that carries out the account from f to g."""
    task = Task(book, f, good_account(book, f, g))
    # In a good book one never gets stuck, whichever deeds are done first.
    return [task.deed(k) for k in done_so_far(task)[0]]


def good_account(book, f, g):
    """The account from f to g in a book that must be good."""
    check_good(book)
    return account_of(book, f, g)


def fewest_deeds(book, f, g):
    """How many deeds the account from f to g has."""
    return many_deeds(good_account(book, f, g))


def many_deeds(account):
    """How many deeds an account has."""
    return sum([abs(number) for number in account])


def least_cost(book, f, g, prices):
    """The cost of the account from f to g at prices."""
    return cost_of(good_account(book, f, g), prices)


def deeds_asked(book, account):
    """The list of the deeds of an account, each once, in the order of the barters."""
    return [(name, direction) for name, direction, _ in account_deeds(book, account)]


def next_deeds(book, f, g):
    """The list of the deeds of the account from f to g that can be done at f."""
    return [deed for deed in deeds_asked(book, good_account(book, f, g)) if is_deed(book, f, deed)]


def last_deeds(book, f, g):
    """The list of the deeds of the account from f to g that can be taken back at g."""
    return [deed for deed in deeds_asked(book, good_account(book, f, g)) if is_deed(book, g, turned_deed(deed))]


def change_of(book, f, g, deed):
    """By how much more deeds the account has behind a deed than it has from f to g."""
    account = good_account(book, f, g)
    if not is_deed(book, f, deed):
        raise BadDeed(0)
    return -1 if deed in deeds_asked(book, account) else 1


def begins(book, f, g, deed):
    """Tells whether a deed begins a script with the fewest deeds from f to g."""
    return change_of(book, f, g, deed) == -1


def judge_way(book, f, g, script):
    """None if the script carries out the account from f to g, and otherwise why it does not."""
    account = good_account(book, f, g)
    if not isinstance(script, (list, tuple)):
        return ("form",)
    number = first_bad(book, f, script)
    if number is not None:
        return ("deed", number)
    if walked(book, f, script) != g:
        return ("end",)
    above = len(script) - many_deeds(account)
    return None if above == 0 else ("deeds", above)


def run_of(book, f, account):
    """Any run of an account from f, whether the book is good or not."""
    task = task_of(book, f, account)
    steps, moment, stock = done_so_far(task)
    script = [task.deed(k) for k in steps]
    if moment == task.amounts:
        return ("carried", script)
    goods = book.goods()
    return ("stuck", script, tuple([(task.words[k], goods[j]) for k, j in waits_of(task, moment, stock)]))


def waits_of(task, moment, stock):
    """The pairs of the numbers of barters and goods that wait for one another, where no deed left can be done."""
    waiting = task.waiting(moment)
    lacked = {k: first_lacked(task.rows[k], stock) for k in waiting}
    # The same barter is taken for the same good, so that the goods of the round are different.
    giver = {j: first_giver(task, waiting, j) for j in lacked.values()}
    came = []
    at = waiting[0]
    while at not in came:
        came.append(at)
        at = giver[lacked[at]]
    return [(k, lacked[k]) for k in came[came.index(at):]]


def first_lacked(row, stock):
    """The number of the first good of which the stock has less than a row takes."""
    return [j for j, number in enumerate(stock) if number + row[j] < 0][0]


def first_giver(task, waiting, good):
    """The first of the waiting barters that gives a good, as the account asks for it."""
    return [k for k in waiting if task.rows[k][good] > 0][0]


def judge_run(book, f, account, value):
    """Tells whether the value is a run of an account from f."""
    task_of(book, f, account)
    if not isinstance(value, tuple) or len(value) not in (2, 3):
        return False
    left = left_behind(book, f, account, value[1])
    if left is None:
        return False
    if len(value) == 2:
        return value[0] == "carried" and many_deeds(left) == 0
    # Waits name barters of which deeds are left, so that there are none if no deeds are left.
    return value[0] == "stuck" and are_waits(book, walked(book, f, value[1]), left, value[2])


def left_behind(book, f, account, script):
    """What is left of an account behind a script of some of its deeds, or None if the script is no such one."""
    if first_bad(book, f, script) is not None:
        return None
    left = list(account)
    for name, direction in script:
        k = book.barter_number(name)
        if left[k] * direction <= 0:
            return None
        left[k] -= direction
    return tuple(left)


def are_waits(book, stock, left, value):
    """Tells whether no deed that is left can be done at the stock, and the value is pairs that wait in a round."""
    asked = deeds_asked(book, left)
    if any([is_deed(book, stock, deed) for deed in asked]):
        return False
    return is_round_of_pairs(book, value) and waits_in_round(book, stock, dict(asked), value)


def is_round_of_pairs(book, value):
    """Tells whether the value is a tuple of two pairs or more with different barters and different goods."""
    if not isinstance(value, tuple) or len(value) < 2:
        return False
    if not all([isinstance(pair, tuple) and len(pair) == 2 for pair in value]):
        return False
    return are_barters(book, [pair[0] for pair in value]) and are_goods(book, [pair[1] for pair in value])


def waits_in_round(book, stock, directions, pairs):
    """Tells whether each barter is asked for, lacks its good and gives the good of the pair before."""
    for at, (name, good) in enumerate(pairs):
        if name not in directions:
            return False
        row = times_row(directions[name], book.row(name))
        j = book.good_number(good)
        if stock[j] + row[j] >= 0 or row[book.good_number(pairs[at - 1][1])] <= 0:
            return False
    return True
