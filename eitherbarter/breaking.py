"""Breaks: what shows of a bad book that some account of it cannot be carried out."""

from eitherbarter.accounts import balance, judge_account
from eitherbarter.solving import combined, idle_stairs_of
from eitherbarter.squares import judge_square, square_of
from eitherbarter.stocks import is_stock


def breaking(book):
    """Any break of the book, or None if the book is good."""
    square = square_of(book)
    if square is None:
        return None
    account = square_account(book, square)
    row = balance(book, account)
    # At the goods of the square no number of the balance is below 0, so f has nothing of them.
    f = tuple([max(0, -number) for number in row])
    return (square, f, combined(1, f, 1, row), account)


def square_account(book, square):
    """An account of barters of the square whose balance is one number of at least 0 at all goods of the square."""
    names, goods = square
    rows = [numbers_at(book, book.row(name), goods) for name in names]
    # These are more rows than numbers in each, so some integers, not all 0, make their sum all 0; the last one
    # tells what the barters add up to at each of the goods.
    *numbers, total = idle_stairs_of(rows + [(-1,) * len(goods)], len(goods))[0]
    sign = -1 if total < 0 else 1
    told = {name: sign * number for name, number in zip(names, numbers)}
    return tuple([told.get(name, 0) for name in book.names()])


def numbers_at(book, row, goods):
    """The tuple of the numbers of a row at some goods."""
    return tuple([row[book.good_number(good)] for good in goods])


def judge_breaking(book, value):
    """Tells whether the value is a break of the book."""
    if not isinstance(value, tuple) or len(value) != 4:
        return False
    square, f, g, account = value
    if not judge_square(book, square) or not is_stock(book, f) or not is_stock(book, g):
        return False
    names, goods = square
    if any(numbers_at(book, f, goods)) or not judge_account(book, f, g, account):
        return False
    return any(account) and all([number == 0 or name in names for name, number in zip(book.names(), account)])
