"""Rows that become stocks on paper, and their mirrors: of a row and its mirror just one becomes a stock."""

from eitherbarter.accounts import balance
from eitherbarter.errors import BadAccount
from eitherbarter.points import account_from
from eitherbarter.series import is_full
from eitherbarter.solving import combined
from eitherbarter.stocks import is_enough
from eitherbarter.tasks import check_good


def account_to_stock(book, row):
    """Any account by which the row becomes a stock, or None if there is none."""
    check_good(book)
    return account_from(book, row)


def mirror_row(book):
    """The mirror row of a full book, or None if the book is not full."""
    check_good(book)
    if not is_full(book):
        return None
    row = (-1,) * len(book.goods())
    for barter in book.barters():
        row = combined(1, row, 1, [max(0, -entry) for entry in barter[1]])
    return row


def mirror_paper(book, row):
    """Any mirror paper for a row, or None if the book is not full."""
    mirrored = mirror_row(book)
    if mirrored is None:
        return None
    account = account_from(book, row)
    if account is not None:
        return ("here", account)
    return ("there", account_from(book, combined(1, mirrored, -1, row)))


def judge_mirror_paper(book, row, value):
    """Tells whether the value is a mirror paper for a row."""
    mirrored = mirror_row(book)
    if mirrored is None or not isinstance(value, tuple) or len(value) != 2:
        return False
    word, account = value
    if word == "here":
        return leads_to_stock(book, row, account)
    if word == "there":
        return leads_to_stock(book, combined(1, mirrored, -1, row), account)
    return False


def leads_to_stock(book, row, value):
    """Tells whether the value is an account by which the row becomes a stock."""
    try:
        behind = combined(1, row, 1, balance(book, value))
    except BadAccount:
        return False
    return is_enough(behind)
