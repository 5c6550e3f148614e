"""Weights and keepers: numbers of the goods by which each barter is even."""

from math import gcd

from eitherbarter.errors import BadTree, Pumped
from eitherbarter.gains import account_for_all, gains_of
from eitherbarter.rays import in_lowest, least_rays, product_of
from eitherbarter.solving import combined, unit
from eitherbarter.trees import check_tree, is_empty, is_fork, judge_tree
from eitherbarter.words import is_number


def weight(book, row, numbers):
    """The weight of a stock or another row by some numbers of the goods."""
    return product_of(row, numbers)


def is_keeper(book, value):
    """Tells whether the value is a keeper."""
    return is_even(book, value) and any(value) and in_lowest(value) == value


def is_even(book, value):
    """Tells whether the value is a tuple of integers of at least 0 for the goods, by which each barter is even."""
    if not isinstance(value, tuple) or len(value) != len(book.goods()):
        return False
    if not all([is_number(number) for number in value]):
        return False
    return all([product_of(barter[1], value) == 0 for barter in book.barters()])


def least_keepers(book):
    """The list of the least keepers, ascending."""
    return least_rays([barter[1] for barter in book.barters()], len(book.goods()))


def weights_of(book):
    """Any weights of the book."""
    numbers = (0,) * len(book.goods())
    for keeper in least_keepers(book):
        numbers = combined(1, numbers, 1, keeper)
    if 0 in numbers:
        raise Pumped(account_for_all(book, gains_of(book)))
    return numbers


def judge_weights(book, value):
    """Tells whether the value is weights of the book."""
    return is_even(book, value) and 0 not in value


def tree_weights(book, tree):
    """The tree weights, in the order of the goods of the book."""
    if not judge_tree(book, tree):
        check_tree(tree)
        raise BadTree(())
    return () if is_empty(tree) else weights_within(book, tree)


def weights_within(book, tree):
    """The tree weights of a part of a tree of the book, with 0 for all other goods."""
    if not is_fork(tree):
        return unit(len(book.goods()), book.good_number(tree))
    left = weights_within(book, tree[0])
    right = weights_within(book, tree[1])
    if tree[2] is None:
        return combined(1, left, 1, right)
    row = book.row(tree[2])
    m = abs(product_of(row, left))
    n = abs(product_of(row, right))
    divisor = gcd(m, n)
    return combined(n // divisor, left, m // divisor, right)
