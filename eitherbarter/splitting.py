"""Pieces and trees of books, told by masks.

A mask is an integer that stands for some goods: its bit j is set if the good number j is among them.
The sides of a barter are the triple of its name and the masks of what it gives and of what it takes.
"""


def mask_of(marks):
    """The mask with the bits at whose places the marks are true."""
    mask = 0
    for j, mark in enumerate(marks):
        if mark:
            mask = mask | (1 << j)
    return mask


def words_in(words, mask):
    """The list of those words at whose places the mask has its bits."""
    return [word for j, word in enumerate(words) if mask & (1 << j)]


def all_goods(book):
    """The mask of all goods of a book."""
    return (1 << len(book.goods())) - 1


def sides_of(book):
    """The list of the sides of all barters of a book."""
    sides = []
    for name, row in book.barters():
        sides.append((name, mask_of([entry > 0 for entry in row]), mask_of([entry < 0 for entry in row])))
    return sides


def sides_within(goods, sides):
    """The sides that are left, of those that are told, in the part with the goods of a mask."""
    cut = [(name, given & goods, taken & goods) for name, given, taken in sides]
    return [(name, given, taken) for name, given, taken in cut if given and taken]


def hung_with(goods, sides):
    """The mask of all goods that hang together with some of the goods."""
    before = 0
    while goods != before:
        before = goods
        for _, given, taken in sides:
            if (given | taken) & goods:
                goods = goods | given | taken
    return goods


def pieces_within(goods, sides):
    """The list of the masks of the pieces, in the order of their first goods."""
    pieces = []
    while goods:
        # The lowest bit of the mask alone.
        piece = hung_with(goods & -goods, sides)
        pieces.append(piece)
        goods = goods - piece
    return pieces


def tree_within(words, goods, sides):
    """A tree of some goods and the barters with these sides, or None if there is none; () without goods.

    The pieces, of which each has a tree by itself, are put together by forks without a barter.
    """
    tree = ()
    for piece in pieces_within(goods, sides):
        part = piece_tree(words, piece, sides_within(piece, sides))
        if part is None:
            return None
        tree = part if tree == () else (tree, part, None)
    return tree


def piece_tree(words, piece, sides):
    """A tree of one piece, or None if there is none.

    Any barter at which the piece splits may be at its first fork: if the book is good, so are both sides.
    """
    if not sides:
        return words[piece.bit_length() - 1]
    for k, (name, given, taken) in enumerate(sides):
        others = sides[:k] + sides[k + 1:]
        one = hung_with(given, others)
        if not one & taken:
            left = tree_within(words, one, sides_within(one, others))
            right = tree_within(words, piece - one, sides_within(piece - one, others))
            return None if left is None or right is None else (left, right, name)
    return None


def has_tree(words, goods, sides):
    """Tells whether there is a tree of some goods and the barters with these sides."""
    return tree_within(words, goods, sides) is not None
