"""Deeds: pairs of the name of a barter and 1 for forward or -1 for back."""

from eitherbarter.errors import BadDeed
from eitherbarter.solving import combined
from eitherbarter.stocks import is_enough
from eitherbarter.words import is_integer

WAYS = (1, -1)


def is_deed(book, stock, value):
    """Tells whether the value is a deed that can be done at the stock."""
    return stock_behind(book, stock, value) is not None


def stock_behind(book, stock, value):
    """The stock to which a deed leads, or None if the value is no deed that can be done at the stock."""
    if not isinstance(value, tuple) or len(value) != 2:
        return None
    name, way = value
    if not book.has_barter(name) or not is_integer(way) or way not in WAYS:
        return None
    behind = combined(1, stock, way, book.row(name))
    return behind if is_enough(behind) else None


def done(book, stock, deed):
    """The stock to which a deed leads."""
    behind = stock_behind(book, stock, deed)
    if behind is None:
        raise BadDeed(0)
    return behind


def deed_back(book, stock, deed):
    """The deed by which a deed is taken back."""
    if not is_deed(book, stock, deed):
        raise BadDeed(0)
    return turned_deed(deed)


def turned_deed(deed):
    """The deed that takes back what is a deed for sure."""
    name, way = deed
    return (name, -way)


def all_deeds(book, stock):
    """The list of the deeds that can be done, in order."""
    return [step[0] for step in next_steps(book, stock)]


def next_steps(book, stock):
    """The list of the pairs of a deed that can be done and the stock to which it leads, in order."""
    steps = []
    for name, row in book.barters():
        for way in WAYS:
            behind = combined(1, stock, way, row)
            if is_enough(behind):
                steps.append(((name, way), behind))
    return steps


def is_idle(book, stock):
    """Tells whether no deed can be done at the stock."""
    return not next_steps(book, stock)
