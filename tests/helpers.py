"""Books and values for the tests, and plain searches against which answers are held."""

import itertools
import math
import random
import time
from fractions import Fraction

from eitherbarter.books import Book
from eitherbarter.errors import BadBook, BarterError, NameMissing, UnknownName
from eitherbarter.weights import tree_weights


def coins():
    """The book B of part 1."""
    return Book(["coin", "note", "bag"], [("change", (-5, 1, 0)), ("pack", (-1, -2, 1))])


def letters():
    """The book B of part 2."""
    return Book(
        ["a", "b", "c", "d", "e"],
        [("p", (-2, 1, 0, 0, 0)), ("q", (0, -3, -1, 1, 0)), ("r", (0, 0, 2, 0, -1))],
    )


def three():
    """The book B of part 3."""
    return Book(["a", "b", "c"], [("p", (-2, 1, 0)), ("q", (0, -3, 1))])


def dependent():
    """The book of S3.6."""
    return Book(["x", "y"], [("r", (-4, 6)), ("s", (-6, 9)), ("t", (10, -15))])


def pair():
    """The book of S4.8."""
    return Book(["a", "b", "c"], [("p", (-2, 1, 0)), ("q", (0, -3, 2))])


def money():
    """The book of S5.6 and S6.6."""
    return Book(["cent", "nickel", "dime"], [("split", (0, 2, -1)), ("change", (5, -1, 0))])


def there_and_back():
    """The book of the example in S5.8."""
    return Book(["a", "b"], [("p", (-1, 1)), ("q", (1, -1))])


def three_twos():
    """The first book of S9.5."""
    return Book(["a", "b", "c"], [("p", (-3, 2, 0)), ("q", (-1, -1, 2))])


def ring(many):
    """A book with one round, of so many goods and barters."""
    barters = []
    for k in range(many):
        row = [0] * many
        row[k], row[(k + 1) % many] = -1, 1
        barters.append((f"n{k}", tuple(row)))
    return Book([f"g{k}" for k in range(many)], barters)


def nested(depth, member=0):
    """A value that is nested so deep."""
    value = member
    for k in range(depth):
        value = [value] if k % 2 else (value,)
    return value


def deep_tree(depth):
    """A tree with a fork at each of so many levels."""
    tree = "a"
    for k in range(depth):
        tree = (tree, "b", None) if k % 2 else ("b", tree, "n")
    return tree


def anything():
    """Values of all kinds, none of them a word that the tests use, a good or a name."""
    return [
        None, True, False, 0, 1, -1, 2, 10 ** 39, -(10 ** 39),
        "", " ", "A", "1a", "a b", "a-b", "a\n", "\t", "abcdefghijklm", "unknown", "0",
        (), [], {}, (1,), [1], {"a": 1}, {1: "a"}, ("a", "b"), ["a", "b"], ("a", ("b",), ["c"], {"d": None}),
        (True, False), (None, None), (None, None, None), ((), ()), ((), (), None), (("a",), ("p",)),
        nested(40), nested(40, "a"), nested(40, ()), coins(), Book([], []), (coins(), coins()), [coins()],
        {"book": coins()}, BadBook((1, 2)), UnknownName("a"),
    ]


def drawn_row(rng, many, share=0.5, most=9):
    """A row with entries of both signs, each of them not 0 with a certain share."""
    while True:
        row = [rng.choice([-1, 1]) * rng.randint(1, most) if rng.random() < share else 0 for _ in range(many)]
        if min(row) < 0 < max(row):
            return tuple(row)


def drawn_book(rng, goods, barters, share=0.5, most=9):
    """A book with so many goods, at least two, and barters."""
    return Book(
        [f"g{j}" for j in range(goods)],
        [(f"n{k}", drawn_row(rng, goods, share, most)) for k in range(barters)],
    )


def drawn_good_book(rng, goods, share=0.8, most=9):
    """A good book with so many goods, in any order, made by drawing a tree; and this tree."""
    words = [f"g{j}" for j in range(goods)]
    rng.shuffle(words)
    parts = [(word, [word]) for word in words]
    barters = []
    while len(parts) > 1:
        rng.shuffle(parts)
        (left, left_words), (right, right_words) = parts.pop(), parts.pop()
        name = None
        if rng.random() < share:
            name = f"n{len(barters)}"
            barters.append((name, across_row(rng, words, left_words, right_words, most)))
        parts.append(((left, right, name), left_words + right_words))
    rng.shuffle(barters)
    return Book(words, barters), parts[0][0] if parts else ()


def across_row(rng, words, left, right, most=9):
    """A row that takes goods of the one side and gives goods of the other one."""
    sign = rng.choice([-1, 1])
    row = [0] * len(words)
    for side, way in ((left, sign), (right, -sign)):
        for word in rng.sample(side, rng.randint(1, min(3, len(side)))):
            row[words.index(word)] = way * rng.randint(1, most)
    return tuple(row)


def drawn_books(seed, many, goods=6, barters=6):
    """Books of all sorts, good ones and others, of at most so many goods and barters."""
    rng = random.Random(seed)
    books = [Book([], []), Book(["g0"], []), Book(["g0", "g1"], [])]
    while len(books) < many:
        if rng.random() < 0.3:
            book, _ = drawn_good_book(rng, rng.randint(2, goods), rng.choice([0.4, 0.8, 1.0]))
            if len(book.names()) <= barters:
                books.append(book)
        else:
            share = rng.choice([0.3, 0.4, 0.6, 1.0])
            books.append(drawn_book(rng, rng.randint(2, goods), rng.randint(0, barters), share))
    return books


def plain_links(book):
    """All pairs of a name and two linked goods, both ways round."""
    goods = book.goods()
    found = set()
    for name, row in book.barters():
        for one, other in itertools.permutations(range(len(goods)), 2):
            if row[one] * row[other] < 0:
                found.add((name, goods[one], goods[other]))
    return found


def plain_chains(book, one):
    """All chains that begin with a good."""
    links = plain_links(book)
    chains = [(one,)]
    for chain in chains:
        for name, near, far in links:
            if near == chain[-1] and name not in chain[1::2] and far not in chain[::2]:
                chains.append(chain + (name, far))
    return chains


def plain_rounds(book):
    """All rounds, told from each of their goods on and in both directions."""
    links = plain_links(book)
    rounds = set()
    for good in book.goods():
        for chain in plain_chains(book, good):
            for name, near, far in links:
                if len(chain) > 1 and near == chain[-1] and far == good and name not in chain[1::2]:
                    rounds.add(chain + (name,))
    return rounds


def plain_squares(book):
    """All mixed squares, as all_squares should tell them."""
    goods, barters = book.goods(), book.barters()
    found = []
    for names in plain_subsets(len(barters)):
        for places in plain_subsets(len(goods)):
            if len(names) == len(places) >= 2 and all(mixes(barters[k][1], places) for k in names):
                found.append((len(names), names, places))
    found.sort()
    return [
        (tuple(barters[k][0] for k in names), tuple(goods[j] for j in places)) for _, names, places in found
    ]


def plain_subsets(many):
    """All ascending tuples of numbers below many."""
    return [tuple(k for k in range(many) if mask >> k & 1) for mask in range(1 << many)]


def mixes(row, places):
    """Whether a row has numbers above 0 and below 0 at these places."""
    return any(row[j] > 0 for j in places) and any(row[j] < 0 for j in places)


def plain_is_good(book):
    """Whether no goods are mixed by as many barters as they are, two or more."""
    rows = [row for _, row in book.barters()]
    for places in plain_subsets(len(book.goods())):
        if len(places) >= 2 and sum(mixes(row, places) for row in rows) >= len(places):
            return False
    return True


def plain_is_square(book, value):
    """Whether a pair of tuples of words is a mixed square."""
    names, goods = value
    if len(names) != len(goods) or len(names) < 2:
        return False
    if len(set(names)) < len(names) or len(set(goods)) < len(goods):
        return False
    if not set(names) <= set(book.names()) or not set(goods) <= set(book.goods()):
        return False
    places = [book.goods().index(good) for good in goods]
    return all(mixes(dict(book.barters())[name], places) for name in names)


def plain_leaves(tree):
    """The leaves of what has the form of a tree other than ()."""
    return plain_leaves(tree[0]) + plain_leaves(tree[1]) if isinstance(tree, tuple) else [tree]


def plain_forks(tree):
    """The forks of what has the form of a tree other than ()."""
    if not isinstance(tree, tuple):
        return []
    left, right, name = tree
    return [(name, tuple(plain_leaves(left)), tuple(plain_leaves(right)))] + plain_forks(left) + plain_forks(right)


def plain_is_tree(book, tree):
    """Whether what has the form of a tree is a tree of the book."""
    if tree == () or not book.goods():
        return tree == () and not book.goods()
    if sorted(plain_leaves(tree)) != sorted(book.goods()):
        return False
    told = plain_forks(tree)
    if sorted(name for name, _, _ in told if name is not None) != sorted(book.names()):
        return False
    for name, left, right in told:
        if name is not None:
            gives, takes = set(book.gives(name)), set(book.takes(name))
            straight = gives <= set(left) and takes <= set(right)
            if not straight and not (gives <= set(right) and takes <= set(left)):
                return False
    return True


def plain_balance(book, account):
    """The balance of an account."""
    rows = [row for _, row in book.barters()]
    return tuple(
        sum(number * row[j] for number, row in zip(account, rows)) for j in range(len(book.goods()))
    )


def rank_and_divisor(rows):
    """The rank of some rows, and the greatest common divisor of their minors of this size (1 for none).

    Rows and columns are worked down until each has at most one number that is not 0.
    """
    rows = [list(row) for row in rows]
    rank, divisor = 0, 1
    while any(any(row) for row in rows):
        _, at, place = min((abs(n), k, j) for k, row in enumerate(rows) for j, n in enumerate(row) if n)
        head = rows[at][place]
        clean = True
        for k, row in enumerate(rows):
            if k != at and row[place]:
                many = row[place] // head
                rows[k] = [n - many * m for n, m in zip(row, rows[at])]
                clean = clean and rows[k][place] == 0
        for j in range(len(rows[at])):
            if clean and j != place and rows[at][j]:
                many = rows[at][j] // head
                for row in rows:
                    row[j] -= many * row[place]
        if clean and sum(1 for n in rows[at] if n) == 1:
            rank, divisor = rank + 1, divisor * abs(head)
            rows = [[n for j, n in enumerate(row) if j != place] for k, row in enumerate(rows) if k != at]
    return rank, divisor


def plain_sum(row, fractions):
    """The sum of the numbers of a row, each multiplied by the fraction, a pair, at its place."""
    return sum((number * Fraction(*pair) for number, pair in zip(row, fractions)), Fraction(0))


def plus(one, other, many=1):
    """A row and another one, multiplied by a number, added up."""
    return tuple(a + many * b for a, b in zip(one, other))


def plain_step(book, stock, deed):
    """The stock behind what is a pair of a name and 1 or -1, or None if it cannot be done."""
    name, way = deed
    behind = plus(stock, dict(book.barters())[name], way)
    return None if any(number < 0 for number in behind) else behind


def plain_deeds(book):
    """All pairs of a name and 1 or -1, in order."""
    return [(name, way) for name in book.names() for way in (1, -1)]


def plain_walk(book, stock, script):
    """The list of the stocks that the deeds come through, up to the first that cannot be done."""
    stocks = [stock]
    for deed in script:
        behind = plain_step(book, stocks[-1], deed)
        if behind is None:
            return stocks
        stocks.append(behind)
    return stocks


def plain_met(book, stock, most=10 ** 9, bound=10 ** 9):
    """A dict of the least number of deeds to each stock within so many deeds; None if there are more than bound."""
    met = {stock: 0}
    queue = [stock]
    for one in queue:
        for deed in plain_deeds(book):
            behind = plain_step(book, one, deed) if met[one] < most else None
            if behind is not None and behind not in met:
                met[behind] = met[one] + 1
                queue.append(behind)
        if len(met) > bound:
            return None
    return met


def plain_cheapest(book, stock, prices):
    """A dict of the least price of a script to each stock of a lot, made less until nothing changes."""
    price_of = dict(zip(book.names(), prices))
    met = {stock: 0}
    changed = True
    while changed:
        changed = False
        for one in list(met):
            for deed in plain_deeds(book):
                behind = plain_step(book, one, deed)
                if behind is not None and met.get(behind, 10 ** 30) > met[one] + price_of[deed[0]]:
                    met[behind] = met[one] + price_of[deed[0]]
                    changed = True
    return met


def asked_deeds(book, account):
    """The list of the deeds of an account, each as often as it asks for it."""
    deeds = []
    for name, number in zip(book.names(), account):
        deeds.extend([(name, 1 if number > 0 else -1)] * abs(number))
    return deeds


def least_stock(book, account):
    """The least stock from which the account leads to a stock."""
    return tuple(max(0, -number) for number in plain_balance(book, account))


def drawn_account(rng, book, most, share=0.8):
    """An account of at most so many deeds, at each barter not 0 with a certain share."""
    account = [0] * len(book.names())
    for _ in range(most):
        if account:
            k = rng.randrange(len(account))
            account[k] += (1 if account[k] > 0 else -1) if account[k] else rng.choice([-1, 1])
    return tuple(number if rng.random() < share else 0 for number in account)


def drawn_carry(rng, goods, deeds, most=9, more=0, share=0.9):
    """A drawn good book, an account of at most so many deeds, and two stocks between which it leads, small ones."""
    book, _ = drawn_good_book(rng, goods, share, most)
    account = drawn_account(rng, book, deeds)
    f = tuple(number + rng.randint(0, more) for number in least_stock(book, account))
    return book, f, account, plus(f, plain_balance(book, account))


def plain_moments(book, f, account):
    """The dict of all moments, ascending, with the stocks at them."""
    found = {}
    for numbers in itertools.product(*(range(abs(number) + 1) for number in account)):
        signed = [number if whole > 0 else -number for number, whole in zip(numbers, account)]
        stock = plus(f, plain_balance(book, signed))
        if all(number >= 0 for number in stock):
            found[numbers] = stock
    return found


def plain_orders(book, f, account):
    """The list of all doable orders of an account, told by trying each barter in turn at each place."""
    orders = []

    def go_on(stock, left, order):
        if not any(left):
            orders.append(tuple(order))
        for k, name in enumerate(book.names()):
            if left[k]:
                way = 1 if left[k] > 0 else -1
                behind = plain_step(book, stock, (name, way))
                if behind is not None:
                    go_on(behind, left[:k] + [left[k] - way] + left[k + 1:], order + [name])

    go_on(f, list(account), [])
    return orders


def plain_kernel(rows, many):
    """Rows of fractions that make up all rows of so many whose products with each of the rows are 0."""
    rows = [[Fraction(number) for number in row] for row in rows]
    heads = []
    for j in range(many):
        found = next((row for row in rows[len(heads):] if row[j]), None)
        if found is None:
            continue
        rows.remove(found)
        found = [number / found[j] for number in found]
        rows = [[a - row[j] * b for a, b in zip(row, found)] for row in rows]
        rows.insert(len(heads), found)
        heads.append(j)
    kernel = []
    for j in range(many):
        if j not in heads:
            row = [Fraction(int(k == j)) for k in range(many)]
            for head, step in zip(heads, rows):
                row[head] = -step[j]
            kernel.append(row)
    return kernel


def plain_least(rows, many):
    """The least tuples of integers of at least 0 whose products with each row are 0, found for each lot of places."""
    found = {}
    for places in sorted(plain_subsets(many), key=len):
        if not places or any(set(other) <= set(places) for other in found):
            continue
        cut = plain_kernel([[row[j] for j in places] for row in rows], len(places))
        # A least one is the only one with its places, so nothing else is even there.
        if len(cut) == 1 and (min(cut[0]) > 0 or max(cut[0]) < 0):
            found[places] = whole_row(cut[0], places, many)
    return sorted(found.values())


def whole_row(numbers, places, many):
    """The integers in lowest terms that are in the ratio of fractions of one sign, put at their places."""
    bottom = math.lcm(*(number.denominator for number in numbers))
    whole = [abs(int(number * bottom)) for number in numbers]
    row = [0] * many
    for j, number in zip(places, whole):
        row[j] = number // math.gcd(*whole)
    return tuple(row)


def raised(function, *arguments):
    """The error that a call raises: its class and the value of its attribute, or None without an attribute."""
    try:
        function(*arguments)
    except (BarterError, NameMissing) as error:
        attributes = list(vars(error).values())
        return (type(error), attributes[0] if attributes else None)
    return None


def in_time(function, *arguments):
    """What a call returns, or the error that it raises; it must end within a few seconds."""
    begin = time.perf_counter()
    try:
        return function(*arguments)
    except BarterError as error:
        return error
    finally:
        passed = time.perf_counter() - begin
        if passed > 5:
            raise AssertionError(f"{function.__name__} took {passed} seconds")


def plain_stocks(weights, most):
    """The dict of the ascending lists of all stocks of the weights 0 to most."""
    found = {number: [] for number in range(most + 1)}

    def go_on(stock, total):
        if len(stock) == len(weights):
            found[total].append(stock)
            return
        for many in range((most - total) // weights[len(stock)] + 1):
            go_on(stock + (many,), total + many * weights[len(stock)])

    go_on((), 0)
    return {number: sorted(stocks) for number, stocks in found.items()}


def plain_first_stocks(book, stocks):
    """The first stocks of the lots of all these stocks, which are whole lots, in order, found by walks."""
    firsts, met = [], set()
    for stock in sorted(stocks):
        if stock not in met:
            firsts.append(stock)
            met |= set(plain_met(book, stock))
    return firsts


def drawn_weighted(rng, goods, share, most=3, heaviest=300, times=2):
    """A drawn good book with weights, the tree weights multiplied, of at most so much."""
    while True:
        book, tree = drawn_good_book(rng, goods, share, most)
        many = rng.randint(1, times)
        weights = tuple(many * number for number in tree_weights(book, tree))
        if max(weights, default=0) <= heaviest:
            return book, weights
