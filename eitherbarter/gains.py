"""Least gains, and accounts that pump them."""

from math import gcd

from eitherbarter.accounts import stairs_with_accounts
from eitherbarter.rays import in_lowest, least_rays, rows_across
from eitherbarter.solving import combined, head_place


def gains_of(book):
    """The list of the least gains, ascending."""
    many = len(book.goods())
    rows = [barter[1] for barter in book.barters()]
    # Rows that are sums of multiples of balances are those whose products with all even tuples are 0.
    return least_rays(rows_across(rows, many), many)


def account_up_to(book, row):
    """An account whose balance is a multiple, above 0, of a row that is a multiple of some balance.

    The numbers of the account have no common divisor.
    """
    many = len(row)
    left = tuple(row) + (0,) * len(book.names())
    for step in stairs_with_accounts(book):
        place = head_place(step)
        if place < many:
            divisor = gcd(left[place], step[place])
            left = combined(step[place] // divisor, left, -left[place] // divisor, step)
    # The stairs are taken off, so behind stands the account turned about.
    return in_lowest([-number for number in left[many:]])


def account_for_all(book, gains):
    """An account that pumps all goods of some gains."""
    row = (0,) * len(book.goods())
    for gain in gains:
        row = combined(1, row, 1, gain)
    return account_up_to(book, row)
