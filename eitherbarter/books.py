"""Books of barters: goods, and barters with a row of integers each."""

from eitherbarter.errors import BadBook, UnknownName
from eitherbarter.splitting import all_goods, pieces_within, sides_of, words_in
from eitherbarter.words import is_integer, is_word


class Book:
    """Goods and barters, both in an order; a book never changes."""

    def __init__(self, goods, barters):
        path = wrong_goods(goods)
        if path is None:
            path = wrong_barters(barters, len(goods))
        if path is not None:
            raise BadBook(path)
        self._goods = tuple(goods)
        self._barters = tuple([(name, tuple(row)) for name, row in barters])
        self._good_numbers = {good: j for j, good in enumerate(self._goods)}
        self._barter_numbers = {name: k for k, name in enumerate(self.names())}

    def __eq__(self, other):
        return isinstance(other, Book) and self._goods == other._goods and self._barters == other._barters

    def goods(self):
        """The list of the goods."""
        return list(self._goods)

    def barters(self):
        """The list of the barters, pairs of a name and a row."""
        return list(self._barters)

    def names(self):
        """The list of the names of the barters."""
        return [barter[0] for barter in self._barters]

    def row(self, name):
        """The row of a barter."""
        return self._barters[self.barter_number(name)][1]

    def takes(self, name):
        """The list of the goods that a barter takes forward."""
        return [good for good, entry in zip(self._goods, self.row(name)) if entry < 0]

    def gives(self, name):
        """The list of the goods that a barter gives forward."""
        return [good for good, entry in zip(self._goods, self.row(name)) if entry > 0]

    def good_number(self, good):
        """The number of a good in the list of the goods."""
        if not self.has_good(good):
            raise UnknownName(good)
        return self._good_numbers[good]

    def barter_number(self, name):
        """The number of a barter in the list of the barters."""
        if not self.has_barter(name):
            raise UnknownName(name)
        return self._barter_numbers[name]

    def has_good(self, value):
        """Tells whether the value, which may be anything, is a good."""
        # Only strings are looked up, since others may be no keys at all.
        return isinstance(value, str) and value in self._good_numbers

    def has_barter(self, value):
        """Tells whether the value, which may be anything, is the name of a barter."""
        return isinstance(value, str) and value in self._barter_numbers


def wrong_goods(goods):
    """The path of the first wrong part of what should be goods, or None."""
    if not isinstance(goods, (list, tuple)):
        return (0,)
    told = {}
    for k, good in enumerate(goods):
        if not is_word(good) or good in told:
            return (0, k)
        told[good] = True
    return None


def wrong_barters(barters, many):
    """The path of the first wrong part of what should be barters for so many goods, or None."""
    if not isinstance(barters, (list, tuple)):
        return (1,)
    told = {}
    for k, barter in enumerate(barters):
        path = wrong_barter(barter, told, many)
        if path is not None:
            return (1, k) + path
        told[barter[0]] = True
    return None


def wrong_barter(barter, told, many):
    """The path within what should be one barter; told has the names that are used already."""
    if not isinstance(barter, tuple) or len(barter) != 2:
        return ()
    name, row = barter
    if not is_word(name) or name in told:
        return (0,)
    path = wrong_row(row, many)
    return None if path is None else (1,) + path


def wrong_row(row, many):
    """The path within what should be the row of a barter for so many goods, or None."""
    if not isinstance(row, tuple) or len(row) != many:
        return ()
    for j, entry in enumerate(row):
        if not is_integer(entry):
            return (j,)
    return None if is_mixed(row) else ()


def is_mixed(entries):
    """Tells whether some entry is below 0 and some entry is above 0."""
    return any([entry < 0 for entry in entries]) and any([entry > 0 for entry in entries])


def are_goods(book, values):
    """Tells whether the values, which may be anything, are different goods."""
    return all([book.has_good(value) for value in values]) and len(set(values)) == len(values)


def are_barters(book, values):
    """Tells whether the values, which may be anything, are names of different barters."""
    return all([book.has_barter(value) for value in values]) and len(set(values)) == len(values)


def turned_book(book, names):
    """The book with some barters turned about."""
    numbers = [book.barter_number(name) for name in names]
    barters = book.barters()
    for k in numbers:
        name, row = barters[k]
        barters[k] = (name, tuple([-entry for entry in row]))
    return Book(book.goods(), barters)


def part_book(book, goods):
    """The part of a book with some goods."""
    numbers = sorted([book.good_number(good) for good in goods])
    barters = [(name, tuple([row[j] for j in numbers])) for name, row in book.barters()]
    words = book.goods()
    return Book([words[j] for j in numbers], [(name, row) for name, row in barters if is_mixed(row)])


def with_barter(book, name, row):
    """The book with one more barter, behind the others."""
    return Book(book.goods(), book.barters() + [(name, row)])


def without_barter(book, name):
    """The book without a barter."""
    number = book.barter_number(name)
    return Book(book.goods(), [barter for k, barter in enumerate(book.barters()) if k != number])


def book_pieces(book):
    """The list of the pieces: pairs of the tuples of their goods and of their barters' names."""
    words = book.goods()
    sides = sides_of(book)
    pieces = []
    for piece in pieces_within(all_goods(book), sides):
        names = [side[0] for side in sides if side[1] & piece]
        pieces.append((tuple(words_in(words, piece)), tuple(names)))
    return pieces


def joined_books(one, other):
    """The book joined of two without a common good or name."""
    before = (0,) * len(one.goods())
    behind = (0,) * len(other.goods())
    barters = [(name, row + behind) for name, row in one.barters()]
    barters.extend([(name, before + row) for name, row in other.barters()])
    return Book(one.goods() + other.goods(), barters)
