"""Books written as texts, and read from texts."""

from eitherbarter.books import Book
from eitherbarter.errors import BadBook
from eitherbarter.lexemes import Reader, with_commas, written


def book_text(book):
    """The text of a book."""
    words = book.goods()
    parts = ["book"]
    parts.extend(with_commas([[good] for good in words]))
    parts.append("{")
    for name, row in book.barters():
        parts.append(name)
        parts.extend(side_parts(words, [-entry for entry in row]))
        parts.append("to")
        parts.extend(side_parts(words, row))
        parts.append(";")
    parts.append("}")
    return written(parts)


def side_parts(words, row):
    """The lexemes of a side with the goods whose numbers are above 0."""
    return with_commas([[str(entry), good] for good, entry in zip(words, row) if entry > 0])


def read_book(text):
    """The book that a text tells."""
    goods, told = read_parts(Reader(text))
    path = wrong_told(goods, told)
    if path is not None:
        raise BadBook(path)
    numbers = {good: j for j, good in enumerate(goods)}
    barters = []
    for name, taken, given in told:
        barters.append((name, told_row(numbers, taken, given)))
    return Book(goods, barters)


def read_parts(reader):
    """What the form of a whole text holds: the goods, and triples (name, taken, given) with two sides."""
    reader.take("book")
    goods = reader.take_list("word")
    reader.take("{")
    told = []
    while not reader.sees("}"):
        name = reader.take_sort("word")
        taken = read_side(reader)
        reader.take("to")
        given = read_side(reader)
        reader.take(";")
        told.append((name, taken, given))
    reader.take("}")
    reader.take_end()
    return goods, told


def read_side(reader):
    """The parts of a SIDE, pairs of a number, still in digits, and a good."""
    reader.take("(")
    parts = [read_part(reader)]
    while reader.sees(","):
        reader.take(",")
        parts.append(read_part(reader))
    reader.take(")")
    return parts


def read_part(reader):
    """One PART of a side."""
    digits = reader.take_sort("number")
    return (digits, reader.take_sort("word"))


def wrong_told(goods, told):
    """The path of what is told wrongly first, or None."""
    known = {}
    for k, good in enumerate(goods):
        if good in known:
            return (0, k)
        known[good] = True
    names = {}
    for k, (name, taken, given) in enumerate(told):
        if name in names:
            return (1, k, 0)
        names[name] = True
        if not are_parts(known, taken + given):
            return (1, k, 1)
    return None


def are_parts(known, parts):
    """Tells whether all numbers of the parts are above 0, and their goods are known and different."""
    told = {}
    for digits, good in parts:
        if digits == "0" or good not in known or good in told:
            return False
        told[good] = True
    return True


def told_row(numbers, taken, given):
    """The row of a barter with two sides; numbers tells the places of the goods."""
    row = [0] * len(numbers)
    for digits, good in taken:
        row[numbers[good]] = -int(digits)
    for digits, good in given:
        row[numbers[good]] = int(digits)
    return tuple(row)
