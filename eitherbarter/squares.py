"""Mixed squares: as many barters as goods, each of which gives some and takes some of these goods."""

from itertools import combinations

from eitherbarter.books import are_barters, are_goods, is_mixed
from eitherbarter.splitting import all_goods, has_tree, sides_of, sides_within, words_in


def square_of(book):
    """Any mixed square, or None if the book is good."""
    words = book.goods()
    goods = all_goods(book)
    sides = sides_of(book)
    if has_tree(words, goods, sides):
        return None
    sides = needed_sides(words, goods, sides)
    goods = needed_goods(words, goods, sides)
    # Nothing more can be left out of what is not good, so this is just one of its mixed squares.
    return (tuple([side[0] for side in sides]), tuple(words_in(words, goods)))


def needed_sides(words, goods, sides):
    """The sides without as many of them as can be left out so that there is still no tree."""
    for side in list(sides):
        fewer = [other for other in sides if other != side]
        if not has_tree(words, goods, fewer):
            sides = fewer
    return sides


def needed_goods(words, goods, sides):
    """The goods without as many of them as can be left out so that there is still no tree."""
    for j in range(len(words)):
        fewer = goods - (1 << j)
        if not has_tree(words, fewer, sides_within(fewer, sides)):
            goods = fewer
    return goods


def is_good_book(book):
    """Tells whether the book is good, that is, has no mixed square."""
    return has_tree(book.goods(), all_goods(book), sides_of(book))


def judge_square(book, value):
    """Tells whether the value is a mixed square, its names and goods in any order."""
    if not isinstance(value, tuple) or len(value) != 2:
        return False
    names, goods = value
    if not isinstance(names, tuple) or not isinstance(goods, tuple):
        return False
    if len(names) < 2 or len(names) != len(goods):
        return False
    if not are_barters(book, names) or not are_goods(book, goods):
        return False
    numbers = [book.good_number(good) for good in goods]
    return all([is_mixed_at(book.row(name), numbers) for name in names])


def is_mixed_at(row, numbers):
    """Tells whether a barter with this row gives some and takes some of the goods with these numbers."""
    return is_mixed([row[j] for j in numbers])


def all_squares(book):
    """The list of all mixed squares, each told once, those with fewer names first."""
    squares = []
    for size in range(2, len(book.goods()) + 1):
        squares.extend(squares_of_size(book, size))
    return squares


def squares_of_size(book, size):
    """The list of the mixed squares with so many names."""
    words = book.goods()
    all_names = book.names()
    squares = []
    for names in combinations(all_names, size):
        rows = [book.row(name) for name in names]
        for numbers in combinations(range(len(words)), size):
            if all([is_mixed_at(row, numbers) for row in rows]):
                squares.append((names, tuple([words[j] for j in numbers])))
    return squares
