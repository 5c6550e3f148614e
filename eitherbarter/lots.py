"""Lots of stocks in good books: which stocks are of one lot, and the first stocks of lots."""

from eitherbarter.errors import TooGreat
from eitherbarter.plainwalks import met_from
from eitherbarter.series import stock_series
from eitherbarter.solving import combined, is_balance, rest_by, stairs
from eitherbarter.tasks import check_good

MOST_STOCKS = 2000


def is_one_lot(book, f, g):
    """Tells whether two stocks are of one lot."""
    check_good(book)
    return is_balance(book, combined(1, g, -1, f))


def lot_of(book, stock):
    """The ascending list of the stocks of the lot of a stock."""
    check_good(book)
    return sorted(list(met_from(book, stock, None, MOST_STOCKS)))


def first_stock(book, stock):
    """The first stock of the lot of a stock."""
    check_good(book)
    return min(list(met_from(book, stock, None, None)))


def lots_at(book, weights, weight):
    """The list of the first stocks of all lots of a weight, in order."""
    return list(firsts_at(book, weights, weight).values())


def firsts_at(book, weights, weight):
    """The dict of the first stocks of all lots of a weight, in order, by the rests that the stocks of each have."""
    check_good(book)
    if stock_series(weights, weight)[weight] > MOST_STOCKS:
        raise TooGreat()
    found = stairs(book)
    firsts = {}
    for stock in stocks_at(weights, weight):
        firsts.setdefault(rest_by(found, stock), stock)
    return firsts


def stocks_at(weights, weight):
    """The ascending list of all stocks of a weight."""
    begun = [((), weight)]
    for k, step in enumerate(weights):
        # Only what the later goods can bring to the weight is gone on with.
        later = stock_series(weights[k + 1:], weight)
        further = []
        for stock, left in begun:
            for many in range(left // step + 1):
                if later[left - many * step] > 0:
                    further.append((stock + (many,), left - many * step))
        begun = further
    return [stock for stock, left in begun if left == 0]
