"""Links of goods by barters, and the chains and rounds that they make."""

from eitherbarter.books import are_barters, are_goods
from eitherbarter.squares import square_of


def links_of(book):
    """The list of the links, triples (name, given, taken)."""
    links = []
    for name in book.names():
        for given in book.gives(name):
            links.extend([(name, given, taken) for taken in book.takes(name)])
    return links


def linking(book, one, other):
    """The list of the names of the barters by which two goods are linked."""
    j = book.good_number(one)
    k = book.good_number(other)
    return [name for name, row in book.barters() if are_unlike(row[j], row[k])]


def are_unlike(one, other):
    """Tells whether one of the numbers is above 0 and the other one below 0."""
    return one < 0 < other or other < 0 < one


def chain_between(book, one, other):
    """Any chain from one good to another one, or None if there is none."""
    book.good_number(one)
    book.good_number(other)
    return chain_by(links_of(book), one, other)


def chain_by(links, one, other):
    """Any chain by some links, or None.

    Ways by different barters are made longer and longer, the shortest first. A way is left out if another
    one came to the same good by some of its barters: that one goes on wherever this one does. So a way
    never comes to a good twice, and each is a chain.
    """
    steps = steps_by(links)
    used_for = {one: [0]}
    ways = [((one,), 0)]
    at = 0
    while at < len(ways):
        way, used = ways[at]
        at += 1
        if way[-1] == other:
            return way
        for name, bit, good in steps.get(way[-1], []):
            further = used | bit
            if further == used or any([earlier & further == earlier for earlier in used_for.get(good, [])]):
                continue
            used_for.setdefault(good, []).append(further)
            ways.append((way + (name, good), further))
    return None


def steps_by(links):
    """For each good the list of the steps from it: triples of a name, the bit of this barter and the next good."""
    bits = {}
    steps = {}
    for name, given, taken in links:
        bit = bits.setdefault(name, 1 << len(bits))
        steps.setdefault(given, []).append((name, bit, taken))
        steps.setdefault(taken, []).append((name, bit, given))
    return steps


def judge_chain(book, value):
    """Tells whether the value is a chain."""
    if not isinstance(value, tuple) or len(value) % 2 == 0:
        return False
    goods = value[::2]
    names = value[1::2]
    return are_goods(book, goods) and are_barters(book, names) and are_linked(book, goods, names)


def are_linked(book, goods, names):
    """Tells whether each barter links the good at its place and the next one."""
    numbers = [book.good_number(good) for good in goods]
    rows = [book.row(name) for name in names]
    return all([are_unlike(row[numbers[k]], row[numbers[k + 1]]) for k, row in enumerate(rows)])


def round_of(book):
    """Any round, or None if there is none."""
    square = square_of(book)
    if square is None:
        return None
    names, goods = square
    links = [link for link in links_of(book) if link[0] in names and link[1] in goods and link[2] in goods]
    # No barter and no good can be left out of this square, so there is a round by all of its barters, and
    # each of them has just one link in it: another one would cut the round short.
    name, given, taken = links[0]
    return (given, name) + chain_by(links[1:], taken, given)[:-1]


def judge_round(book, value):
    """Tells whether the value is a round."""
    if not isinstance(value, tuple) or len(value) < 4 or len(value) % 2 == 1:
        return False
    goods = value[::2]
    names = value[1::2]
    return are_goods(book, goods) and are_barters(book, names) and are_linked(book, goods + goods[:1], names)
