"""Barters that can be put in to a good book so that it stays good."""

from itertools import combinations

from eitherbarter.books import with_barter
from eitherbarter.chains import chain_between, judge_chain
from eitherbarter.errors import UnknownName
from eitherbarter.splitting import all_goods, has_tree, mask_of, sides_of
from eitherbarter.tasks import check_good
from eitherbarter.trees import judge_tree, tree_of


def are_free(book, one, other):
    """Tells whether two goods are free of one another."""
    check_good(book)
    j = book.good_number(one)
    k = book.good_number(other)
    if j == k:
        raise UnknownName(other)
    return stays_good(book, 1 << j, 1 << k)


def free_pairs(book):
    """The list of the pairs of goods that are free of one another."""
    check_good(book)
    goods = book.goods()
    pairs = []
    for j, k in combinations(range(len(goods)), 2):
        if stays_good(book, 1 << j, 1 << k):
            pairs.append((goods[j], goods[k]))
    return pairs


def stays_good(book, given, taken):
    """Tells whether a good book stays good with one more barter, which gives and takes the goods of two masks."""
    # That there is no tree with this barter means that some chain leads from a good given to one taken.
    return has_tree(book.goods(), all_goods(book), sides_of(book) + [(None, given, taken)])


def can_put(book, row):
    """Tells whether a barter with this row can be put in so that the book stays good."""
    check_good(book)
    return stays_good(book, mask_of([entry > 0 for entry in row]), mask_of([entry < 0 for entry in row]))


def put_paper(book, name, row):
    """Any put-in paper for a name and a row."""
    if can_put(book, row):
        return ("tree", tree_of(with_barter(book, name, row)))
    given, taken = ends_of(book, row)
    chains = [chain_between(book, one, other) for one in given for other in taken]
    return ("chain", [chain for chain in chains if chain is not None][0])


def ends_of(book, row):
    """The lists of the goods that a row gives and takes."""
    pairs = list(zip(book.goods(), row))
    return [good for good, entry in pairs if entry > 0], [good for good, entry in pairs if entry < 0]


def judge_put(book, name, row, value):
    """Tells whether the value is a put-in paper for a name and a row."""
    check_good(book)
    if not isinstance(value, tuple) or len(value) != 2:
        return False
    word, told = value
    if word == "tree":
        return judge_tree(with_barter(book, name, row), told)
    if word == "chain" and judge_chain(book, told):
        given, taken = ends_of(book, row)
        return told[0] in given and told[-1] in taken
    return False
