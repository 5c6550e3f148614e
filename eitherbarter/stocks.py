"""Stocks: how many there are of each good; written as texts, and read from texts."""

from eitherbarter.errors import BadStock
from eitherbarter.lexemes import Reader, written
from eitherbarter.words import is_number


def is_stock(book, value):
    """Tells whether the value is a stock of the book."""
    return wrong_stock(book, value) is None


def check_stock(book, value):
    """Raises BadStock with the path of the first wrong part, if the value is no stock of the book."""
    path = wrong_stock(book, value)
    if path is not None:
        raise BadStock(path)


def wrong_stock(book, value):
    """The path of the first wrong part of what should be a stock, or None."""
    if not isinstance(value, tuple) or len(value) != len(book.goods()):
        return ()
    for k, number in enumerate(value):
        if not is_number(number):
            return (k,)
    return None


def is_enough(row):
    """Tells whether no number of a row of integers is below 0."""
    return all([number >= 0 for number in row])


def stock_text(book, stock):
    """The text of a stock."""
    parts = ["stock", "{"]
    for good, number in zip(book.goods(), stock):
        parts.extend([good, str(number), ";"])
    parts.append("}")
    return written(parts)


def read_stock(book, text):
    """The stock that a text tells."""
    told = read_parts(Reader(text))
    goods = book.goods()
    if len(told) != len(goods):
        raise BadStock(())
    for k, good in enumerate(goods):
        if told[k][0] != good:
            raise BadStock((k,))
    return tuple([int(digits) for _, digits in told])


def read_parts(reader):
    """What the form of a whole text holds: the list of the pairs of a good and a number, still in digits."""
    reader.take("stock")
    reader.take("{")
    told = []
    while not reader.sees("}"):
        good = reader.take_sort("word")
        told.append((good, reader.take_sort("number")))
        reader.take(";")
    reader.take("}")
    reader.take_end()
    return told
