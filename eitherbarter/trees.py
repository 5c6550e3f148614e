"""Trees: their leaves are goods, and at their forks are barters or none."""

from eitherbarter.errors import BadTree, NotGood
from eitherbarter.splitting import all_goods, sides_of, tree_within
from eitherbarter.squares import square_of
from eitherbarter.words import is_word


def tree_of(book):
    """Any tree of the book."""
    tree = tree_within(book.goods(), all_goods(book), sides_of(book))
    if tree is None:
        raise NotGood(square_of(book))
    return tree


def judge_tree(book, value):
    """Tells whether the value is a tree of the book."""
    if not book.goods():
        return is_empty(value)
    told = told_by(book, value)
    return told == (all_goods(book), (1 << len(book.names())) - 1)


def told_by(book, value):
    """The masks of the goods and of the barters of what should be a part of a tree of the book, or None.

    None is told as soon as something is wrong, so that a great value is not gone through.
    """
    if book.has_good(value):
        return (1 << book.good_number(value), 0)
    if not is_fork(value):
        return None
    left = told_by(book, value[0])
    right = None if left is None else told_by(book, value[1])
    if right is None or left[0] & right[0]:
        return None
    # A barter never fits at two forks, since it has goods on both sides of each at which it fits.
    bit = fork_bit(book, value[2], left[0], right[0])
    return None if bit is None else (left[0] | right[0], left[1] | right[1] | bit)


def fork_bit(book, name, left, right):
    """The bit of the barter at a fork, whose sides have the goods of two masks; 0 for None; None if it is wrong."""
    if name is None:
        return 0
    if not book.has_barter(name):
        return None
    number = book.barter_number(name)
    _, given, taken = sides_of(book)[number]
    if are_within(given, left, taken, right) or are_within(given, right, taken, left):
        return 1 << number
    return None


def are_within(given, one, taken, other):
    """Tells whether given has only goods of one mask, and taken only goods of the other one."""
    return given & one == given and taken & other == taken


def is_empty(value):
    """Tells whether the value is the tree ()."""
    return isinstance(value, tuple) and len(value) == 0


def is_fork(value):
    """Tells whether the value has the form of a fork, whatever its members are."""
    return isinstance(value, tuple) and len(value) == 3


def leaves(tree):
    """The list of the leaves, from left to right."""
    check_tree(tree)
    return leaves_within(tree)


def leaves_within(tree):
    """The list of the leaves of what is a tree for sure."""
    if is_fork(tree):
        return leaves_within(tree[0]) + leaves_within(tree[1])
    return [] if is_empty(tree) else [tree]


def forks(tree):
    """The list of the triples (name, left, right) for all forks, with the tuples of the leaves of both sides."""
    check_tree(tree)
    return forks_within(tree)


def forks_within(tree):
    """The list of these triples for what is a tree for sure."""
    if not is_fork(tree):
        return []
    left, right, name = tree
    fork = (name, tuple(leaves_within(left)), tuple(leaves_within(right)))
    return [fork] + forks_within(left) + forks_within(right)


def check_tree(tree):
    """Raises BadTree with the path of the first wrong part, if there is one."""
    path = None if is_empty(tree) else wrong_side(tree)
    if path is not None:
        raise BadTree(path)


def wrong_side(value):
    """The path within what should be a side of a tree, or None if it is one."""
    if is_word(value):
        return None
    if not is_fork(value):
        return ()
    for k in range(2):
        path = wrong_side(value[k])
        if path is not None:
            return (k,) + path
    return None if value[2] is None or is_word(value[2]) else (2,)
