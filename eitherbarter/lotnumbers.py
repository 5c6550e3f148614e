"""Lots of one weight, numbered in the order of their first stocks."""

from eitherbarter.errors import TooGreat
from eitherbarter.lots import firsts_at, lots_at
from eitherbarter.rays import product_of
from eitherbarter.solving import rest


def lot_at(book, weights, weight, number):
    """The first stock of the lot of a weight with this number."""
    firsts = lots_at(book, weights, weight)
    if number >= len(firsts):
        raise TooGreat()
    return firsts[number]


def lot_number(book, weights, stock):
    """The number of the lot of a stock."""
    rests = list(firsts_at(book, weights, product_of(stock, weights)))
    return rests.index(rest(book, stock))


def next_lot(book, weights, stock):
    """The first stock of the lot with the next number, or None if that of the stock is the last one."""
    firsts = lots_at(book, weights, product_of(stock, weights))
    number = lot_number(book, weights, stock) + 1
    return firsts[number] if number < len(firsts) else None


def lots_from(book, weights, weight, *, number=0, many=10):
    """The list of the first stocks of so many lots of a weight, or fewer, from this number on."""
    return lots_at(book, weights, weight)[number:number + many]


def drawn_lot(book, weights, weight, number):
    """The first stock of the lot whose number is the remainder of this one, divided by how many there are, or None."""
    firsts = lots_at(book, weights, weight)
    return firsts[number % len(firsts)] if firsts else None
