"""Walks found by going through: from a stock on, deed by deed, to all stocks that were not met before."""

from heapq import heappop, heappush

from eitherbarter.deeds import next_steps
from eitherbarter.errors import TooGreat

MOST_STOCKS = 500


def within(book, stock, most):
    """The list of the pairs (stock, deeds) of all stocks within so many deeds, by the deeds and then the stocks."""
    met = met_from(book, stock, most, MOST_STOCKS)
    pairs = sorted([(met[other][0], other) for other in met])
    return [(other, deeds) for deeds, other in pairs]


def lot_by_walks(book, stock):
    """The ascending list of the stocks of a stock's lot."""
    return sorted(list(met_from(book, stock, None, MOST_STOCKS)))


def met_from(book, stock, most, bound):
    """All stocks within so many deeds, with the triples (least number of deeds, stock before, deed).

    If most is None the whole lot is met. TooGreat is raised if there are more stocks than bound, if that is
    not None.
    """
    met = {stock: (0, None, None)}
    edge = [stock]
    deeds = 0
    while edge and (most is None or deeds < most):
        deeds += 1
        further = []
        for before in edge:
            for deed, behind in next_steps(book, before):
                if behind not in met:
                    met[behind] = (deeds, before, deed)
                    further.append(behind)
        if bound is not None and len(met) > bound:
            raise TooGreat()
        edge = further
    return met


def script_to(met, stock):
    """The list of the deeds that lead from the stock before all others to this one."""
    script = []
    _, before, deed = met[stock]
    while before is not None:
        script.append(deed)
        _, before, deed = met[before]
    return script[::-1]


def fewest_by_walks(book, f, g, most):
    """The least number of deeds of a script from f to g, or None if it is more than most or there is none."""
    met = met_from(book, f, most, None)
    return met[g][0] if g in met else None


def walk_by_walks(book, f, g, most):
    """Any script of the least number of deeds from f to g, or None likewise."""
    met = met_from(book, f, most, None)
    return script_to(met, g) if g in met else None


def cheapest_by_walks(book, f, g, prices):
    """The least price of a script from f to g, or None if none leads there."""
    met = priced_from(book, f, prices)
    return met[g][0] if g in met else None


def cheapest_walk(book, f, g, prices):
    """Any script of the least price from f to g, or None if none leads there."""
    met = priced_from(book, f, prices)
    return script_to(met, g) if g in met else None


def priced_from(book, f, prices):
    """All stocks of the lot of f, with the triples (least price, stock before, deed)."""
    # A great lot is refused ahead of all else, however near the stocks are.
    met_from(book, f, None, MOST_STOCKS)
    price_of = dict(zip(book.names(), prices))
    met = {f: (0, None, None)}
    queue = [(0, f)]
    while queue:
        price, stock = heappop(queue)
        if price > met[stock][0]:
            continue
        for deed, behind in next_steps(book, stock):
            total = price + price_of[deed[0]]
            if behind not in met or total < met[behind][0]:
                met[behind] = (total, stock, deed)
                heappush(queue, (total, behind))
    return met
