"""Stocks between two stocks: those to which some script with the fewest deeds comes."""

from eitherbarter.accounts import account_by, stairs_with_accounts
from eitherbarter.carrying import good_account, many_deeds
from eitherbarter.moments import levels_of
from eitherbarter.tasks import Task, check_good

MOST_BETWEEN = 500


def is_between(book, f, h, g):
    """Tells whether h is between f and g."""
    whole = good_account(book, f, g)
    part = account_by(stairs_with_accounts(book), f, h)
    if part is None:
        return False
    return all([min(0, number) <= part[k] <= max(0, number) for k, number in enumerate(whole)])


def all_between(book, f, g):
    """The list of all stocks between f and g, by how many deeds lead to them, and then ascending."""
    stocks = []
    for level in levels_of(Task(book, f, good_account(book, f, g)), MOST_BETWEEN):
        stocks.extend(sorted(list(level.values())))
    return stocks


def count_between(book, f, g):
    """How many stocks are between f and g."""
    levels = levels_of(Task(book, f, good_account(book, f, g)), None)
    return sum([len(level) for level in levels])


def nearest_stock(book, f, stocks):
    """The index of the first stock to which the account from f has the fewest deeds, or None."""
    check_good(book)
    steps = stairs_with_accounts(book)
    nearest = None
    fewest = None
    for k, stock in enumerate(stocks):
        account = account_by(steps, f, stock)
        if account is not None and (fewest is None or many_deeds(account) < fewest):
            nearest = k
            fewest = many_deeds(account)
    return nearest
