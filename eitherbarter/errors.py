"""The errors that the package raises.

Each keeps its arguments as attributes: a path as a tuple, all others as they are.
"""


class BarterError(ValueError):
    """What all errors of the package are, but those of missing names."""


class UnlikeBooks(BarterError):
    """Two books are not equal."""


class TooGreat(BarterError):
    """There are more than are told."""


class NothingDone(BarterError):
    """There is no act to be undone or redone."""


class BadBook(BarterError):
    """What should be a book is none; path leads to its first wrong part."""

    def __init__(self, path):
        self.path = tuple(path)


class BadStock(BarterError):
    """What should be a stock is none; path leads to its first wrong part."""

    def __init__(self, path):
        self.path = tuple(path)


class BadTree(BarterError):
    """What should be a tree is none; path leads to its first wrong part."""

    def __init__(self, path):
        self.path = tuple(path)


class BadAccount(BarterError):
    """What should be an account is none; path leads to its first wrong part."""

    def __init__(self, path):
        self.path = tuple(path)


class BadPrices(BarterError):
    """What should be prices are none; path leads to their first wrong part."""

    def __init__(self, path):
        self.path = tuple(path)


class BadMade(BarterError):
    """Nothing can be made of this; path leads to its first wrong part."""

    def __init__(self, path):
        self.path = tuple(path)


class NotGood(BarterError):
    """The book is not good; square is a mixed square of it."""

    def __init__(self, square):
        self.square = square


class NoAccount(BarterError):
    """There is no account; row is a no-account row."""

    def __init__(self, row):
        self.row = row


class Pumped(BarterError):
    """The book has no weights; account is a pump."""

    def __init__(self, account):
        self.account = account


class BadDeed(BarterError):
    """The deed with this number cannot be done."""

    def __init__(self, number):
        self.number = number


class BadOrder(BarterError):
    """The member with this number goes on with no doable order."""

    def __init__(self, number):
        self.number = number


class BadText(BarterError):
    """The text has its first wrong place here."""

    def __init__(self, place):
        self.place = place


class BadAct(BarterError):
    """The act cannot be done; word tells why."""

    def __init__(self, word):
        self.word = word


class NameMissing(LookupError):
    """Nothing is found under a name."""


class UnknownName(NameMissing):
    """Nothing has this name."""

    def __init__(self, name):
        self.name = name
