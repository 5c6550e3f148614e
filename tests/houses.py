"""A plain look at acts, against which houses are held, and drawn acts for histories."""

from eitherbarter.accounts import account_of
from eitherbarter.books import Book
from eitherbarter.errors import NoAccount
from tests.helpers import drawn_row, plus

SIZES = {"do": 3, "nail": 2, "free": 2, "goal": 2, "bring": 2, "fetch": 2, "add": 3, "drop": 2, "good": 2, "lose": 2}
LETTERS = "abcdefghijklmnopqrstuvwxyz"


def begun(book, stock):
    """The state of a house that is made of a book and a stock."""
    return (book, stock, (), None, None)


def plain_word_of(value):
    """Whether a value is a word."""
    signs = LETTERS + "0123456789"
    return type(value) is str and 1 <= len(value) <= 12 and value[0] in LETTERS and all(c in signs for c in value)


def plain_is_stock(book, value):
    """Whether a value is a stock of the book."""
    if type(value) is not tuple or len(value) != len(book.goods()):
        return False
    return all(type(number) is int and number >= 0 for number in value)


def plain_is_row(book, value):
    """Whether a value is a row that a barter of the book can have."""
    if type(value) is not tuple or len(value) != len(book.goods()) or not all(type(n) is int for n in value):
        return False
    return min(value, default=0) < 0 < max(value, default=0)


def plain_plan(state, stock):
    """The reduced account to a stock without the nailed barters, with 0 for these, or None."""
    book, present, nails = state[:3]
    lesser = Book(book.goods(), [(name, row) for name, row in book.barters() if name not in nails])
    try:
        told = dict(zip(lesser.names(), account_of(lesser, present, stock)))
    except NoAccount:
        return None
    return tuple(told.get(name, 0) for name in book.names())


def plain_act_word(state, act):
    """The word that tells why a value is no act, by the text of S10.3 line by line, or None."""
    book, stock, nails, goal, plan = state
    rows = dict(book.barters())
    asked = dict(zip(rows, plan)) if plan is not None else {}
    if type(act) is not tuple or not act or type(act[0]) is not str or SIZES.get(act[0]) != len(act):
        return "form"
    word, one = act[:2]
    known = type(one) is str and one in rows
    if word == "do":
        if not known or type(act[2]) is not int or act[2] not in (1, -1):
            return "deed"
        if min(plus(stock, rows[one], act[2])) < 0:
            return "deed"
        return "nail" if one in nails else None
    if word == "nail":
        if not known or one in nails:
            return "barter"
        return "goal" if asked.get(one, 0) else None
    if word == "free":
        return None if known and one in nails else "barter"
    if word == "goal":
        if one is None:
            return None
        if not plain_is_stock(book, one):
            return "stock"
        return None if plain_plan(state, one) is not None else "account"
    if word in ("bring", "fetch"):
        if not plain_is_stock(book, one):
            return "row"
        if word == "fetch" and any(have < go for have, go in zip(stock, one)):
            return "few"
        if word == "fetch" and goal is not None and any(have < go for have, go in zip(goal, one)):
            return "goal"
        return None
    if word == "add":
        if not plain_word_of(one) or known:
            return "name"
        if not plain_is_row(book, act[2]):
            return "row"
        return "many" if len(rows) + 1 > 12 else None
    if word == "drop":
        if not known:
            return "barter"
        return "goal" if asked.get(one, 0) else None
    if word == "good":
        if not plain_word_of(one) or one in book.goods():
            return "name"
        return "many" if len(book.goods()) + 1 > 10 else None
    if type(one) is not str or one not in book.goods():
        return "good"
    return "barter" if any(row[book.goods().index(one)] for row in rows.values()) else None


def plain_state_after(state, act):
    """The state to which what is an act for sure leads."""
    book, stock, nails, goal, plan = state
    goods, barters = book.goods(), dict(book.barters())
    have, want = dict(zip(goods, stock)), None if goal is None else dict(zip(goods, goal))
    asked = None if plan is None else dict(zip(barters, plan))
    nails = set(nails)
    word, one = act[:2]
    if word == "do":
        have = dict(zip(goods, plus(stock, barters[one], act[2])))
        if asked is not None:
            asked[one] -= act[2]
    elif word == "nail":
        nails.add(one)
    elif word == "free":
        nails.remove(one)
    elif word == "goal":
        want = None if one is None else dict(zip(goods, one))
        asked = None if one is None else dict(zip(barters, plain_plan(state, one)))
    elif word in ("bring", "fetch"):
        for good, number in zip(goods, one):
            for side in (have, want):
                if side is not None:
                    side[good] += number if word == "bring" else -number
    elif word == "add":
        barters[one] = act[2]
        if asked is not None:
            asked[one] = 0
    elif word == "drop":
        barters.pop(one)
        nails.discard(one)
    elif word == "good":
        goods.append(one)
        barters = {name: row + (0,) for name, row in barters.items()}
        for side in (have, want):
            if side is not None:
                side[one] = 0
    else:
        j = goods.index(one)
        goods.remove(one)
        barters = {name: row[:j] + row[j + 1:] for name, row in barters.items()}
    return (
        Book(goods, list(barters.items())), tuple(have[good] for good in goods),
        tuple(name for name in barters if name in nails),
        None if want is None else tuple(want[good] for good in goods),
        None if asked is None else tuple(asked[name] for name in barters),
    )


def drawn_act(rng, state, words=tuple(SIZES)):
    """A drawn act of one of some sorts, that often can be done at the state."""
    book, stock, nails, goal, plan = state
    goods, names = book.goods(), book.names()
    some_name = rng.choice(names) if names else "p"
    word = rng.choice(words)
    if word == "do":
        deeds = [(name, way) for name, row in book.barters() for way in (1, -1) if min(plus(stock, row, way)) >= 0]
        deed = rng.choice(deeds) if deeds and rng.random() < 0.9 else (some_name, rng.choice([1, -1]))
        return ("do", *deed)
    if word in ("nail", "drop"):
        return (word, some_name)
    if word == "free":
        return (word, rng.choice(nails) if nails else some_name)
    if word == "goal":
        return (word, drawn_goal(rng, state))
    if word in ("bring", "fetch"):
        return (word, tuple(rng.randint(0, 3 if word == "bring" else 1) for _ in goods))
    if word == "add":
        name = f"n{rng.randint(0, 14)}"
        if len(goods) < 2 or rng.random() < 0.1:
            return (word, name, (1,) * len(goods))
        return (word, name, drawn_row(rng, len(goods), rng.choice([0.3, 0.6]), 2))
    return (word, f"g{rng.randint(0, 11)}" if word == "good" or not goods else rng.choice(goods))


def drawn_goal(rng, state):
    """None, or a stock that often can be the goal."""
    book, stock, nails = state[:3]
    if rng.random() < 0.15:
        return None
    if rng.random() < 0.2:
        return tuple(rng.randint(0, 3) for _ in stock)
    for _ in range(6):
        row = stock
        for name, step in book.barters():
            if name not in nails:
                row = plus(row, step, rng.randint(-1, 1))
        if min(row, default=0) >= 0:
            return row
    return stock
