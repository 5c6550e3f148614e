"""Books that are made: of boxes, of coins, of numbered trees, and of two books with a bridge."""

from eitherbarter.books import Book, joined_books, with_barter
from eitherbarter.errors import BadMade
from eitherbarter.trees import is_empty, is_fork, leaves, tree_of
from eitherbarter.words import is_integer, is_word


def book_of_boxes(kinds):
    """The book of boxes."""
    check_made(wrong_boxes(kinds))
    goods = [kind for kind, _ in kinds]
    packed = [(kind, packing) for kind, packing in kinds if packing is not None]
    return Book(goods, [(kind, told_row(goods, packing, ((kind, 1),))) for kind, packing in packed])


def boxes_tree(kinds):
    """The made tree of boxes."""
    check_made(wrong_boxes(kinds))
    tree = ()
    for kind, packing in kinds:
        tree = kind if tree == () else (tree, kind, None if packing is None else kind)
    return tree


def book_of_coins(coins):
    """The book of coins."""
    return book_of_boxes(boxes_of(coins))


def coins_tree(coins):
    """The made tree of coins."""
    return boxes_tree(boxes_of(coins))


def boxes_of(coins):
    """The boxes in which each coin but the first one is packed of coins of the kind before it."""
    check_made(wrong_coins(coins))
    before = [None] + [coin for coin, _ in coins]
    boxes = []
    for k, (coin, many) in enumerate(coins):
        boxes.append((coin, None if k == 0 else ((before[k], many),)))
    return boxes


def check_made(path):
    """Raises BadMade with this path, if it is not None."""
    if path is not None:
        raise BadMade(path)


def wrong_boxes(kinds):
    """The path of the first wrong part of what should be boxes, or None."""
    path, earlier = wrong_first(kinds)
    for k in range(len(earlier)):
        wrong = None if kinds[k][1] is None else wrong_parts(kinds[k][1], earlier[:k])
        if wrong is not None:
            return (k, 1) + wrong
    return path


def wrong_coins(coins):
    """The path of the first wrong part of what should be coins, or None."""
    path, earlier = wrong_first(coins)
    for k in range(len(earlier)):
        many = coins[k][1]
        is_right = many is None if k == 0 else is_count(many)
        if not is_right:
            return (k, 1)
    return path


def wrong_first(pairs):
    """The path to what is no pair, or no new word in a pair, or None; and the words of the pairs ahead of it."""
    if not isinstance(pairs, (list, tuple)):
        return (), []
    earlier = []
    for k, pair in enumerate(pairs):
        if not is_pair(pair):
            return (k,), earlier
        if not is_word(pair[0]) or pair[0] in earlier:
            return (k, 0), earlier
        earlier.append(pair[0])
    return None, earlier


def is_pair(value):
    """Tells whether the value is a tuple with two members."""
    return isinstance(value, tuple) and len(value) == 2


def is_count(value):
    """Tells whether the value is an integer of at least 1."""
    return is_integer(value) and value >= 1


def wrong_parts(parts, goods):
    """The path within what should be pairs of different ones of these goods and of integers, or None."""
    if not isinstance(parts, tuple) or len(parts) == 0:
        return ()
    earlier = []
    for j, part in enumerate(parts):
        if not is_pair(part):
            return (j,)
        good, many = part
        if good not in goods or good in earlier:
            return (j, 0)
        if not is_count(many):
            return (j, 1)
        earlier.append(good)
    return None


def wrong_triple(triple, names, left, right):
    """The path within what should be a name, other than these, what is taken on the left and given on the right."""
    if not isinstance(triple, tuple) or len(triple) != 3:
        return ()
    name, taken, given = triple
    if not is_word(name) or name in names:
        return (0,)
    path = wrong_parts(taken, left)
    if path is not None:
        return (1,) + path
    path = wrong_parts(given, right)
    return None if path is None else (2,) + path


def told_row(goods, taken, given):
    """The row for these goods of a barter that takes and gives what two tuples of pairs tell."""
    entries = {good: -many for good, many in taken}
    for good, many in given:
        entries[good] = many
    return tuple([entries.get(good, 0) for good in goods])


def book_of_tree(value):
    """The book of a numbered tree."""
    goods, triples = told_by_tree(value)
    return Book(goods, [(name, told_row(goods, taken, given)) for name, taken, given in triples])


def plain_tree(value):
    """The tree that a numbered tree tells."""
    told_by_tree(value)
    return named_tree(value)


def named_tree(value):
    """The tree with the names alone at its forks, of what is a numbered tree for sure."""
    if not is_fork(value):
        return value
    left, right, triple = value
    return (named_tree(left), named_tree(right), None if triple is None else triple[0])


def told_by_tree(value):
    """The lists of the goods and of the triples at the forks of what should be a numbered tree."""
    return ([], []) if is_empty(value) else told_behind(value, (), [], [])


def told_behind(value, path, goods, triples):
    """These goods and triples, and behind them those of what should be a part of a numbered tree at a path."""
    if is_word(value) and value not in goods:
        return goods + [value], triples
    if not is_fork(value):
        raise BadMade(path)
    with_left, triples = told_behind(value[0], path + (0,), goods, triples)
    with_both, triples = told_behind(value[1], path + (1,), with_left, triples)
    if value[2] is None:
        return with_both, triples
    names = [triple[0] for triple in triples]
    wrong = wrong_triple(value[2], names, with_left[len(goods):], with_both[len(with_left):])
    if wrong is not None:
        raise BadMade(path + (2,) + wrong)
    return with_both, triples + [value[2]]


def numbered_form(book):
    """Any numbered form of the book."""
    return numbered(book, tree_of(book))


def numbered(book, tree):
    """A part of a tree of the book as a numbered tree."""
    if not is_fork(tree):
        return tree
    left, right, name = tree
    if name is None:
        return (numbered(book, left), numbered(book, right), None)
    if book.takes(name)[0] in leaves(right):
        left, right = right, left
    entries = list(zip(book.goods(), book.row(name)))
    taken = tuple([(good, -entry) for good, entry in entries if entry < 0])
    given = tuple([(good, entry) for good, entry in entries if entry > 0])
    return (numbered(book, left), numbered(book, right), (name, taken, given))


def bridged_books(one, other, bridge):
    """The book joined of two by a bridge."""
    joined = joined_books(one, other)
    check_made(wrong_triple(bridge, joined.names(), one.goods(), other.goods()))
    name, taken, given = bridge
    return with_barter(joined, name, told_row(joined.goods(), taken, given))
