"""Acts, and the states to which they lead.

A state is a tuple of a book, a stock, the names of the nailed barters, and a goal and a plan or None and None.
"""

from eitherbarter.books import Book, with_barter, without_barter, wrong_row
from eitherbarter.deeds import done, is_deed
from eitherbarter.errors import BadAct, NoAccount
from eitherbarter.goals import free_account, plan_behind
from eitherbarter.solving import combined
from eitherbarter.squares import is_good_book
from eitherbarter.stocks import is_enough, is_stock
from eitherbarter.words import is_word

MOST_GOODS = 10
MOST_BARTERS = 12
# How many members an act has that begins with a word.
MEMBERS = {
    "do": 3, "nail": 2, "free": 2, "goal": 2, "bring": 2, "fetch": 2, "add": 3, "drop": 2, "good": 2, "lose": 2,
}


def act_word(state, act):
    """The word that tells why the value is no act at the state, or None if it is one."""
    if not has_form(act):
        return "form"
    word_of = WORDS_OF[act[0]]
    return word_of(state, act)


def has_form(act):
    """Tells whether the value is a tuple that begins with a word of acts and has as many members as is told there."""
    if not isinstance(act, tuple) or len(act) == 0 or not isinstance(act[0], str):
        return False
    return MEMBERS.get(act[0]) == len(act)


def asked(state, name):
    """The number of a barter in the plan, 0 without a plan."""
    plan = state[4]
    return 0 if plan is None else plan[state[0].barter_number(name)]


def word_of_do(state, act):
    """The word for a deed."""
    book, stock, nails = state[:3]
    if not is_deed(book, stock, act[1:]):
        return "deed"
    return "nail" if act[1] in nails else None


def word_of_nail(state, act):
    """The word for a barter that becomes nailed."""
    if not state[0].has_barter(act[1]) or act[1] in state[2]:
        return "barter"
    return "goal" if asked(state, act[1]) != 0 else None


def word_of_free(state, act):
    """The word for a barter that is nailed no longer."""
    return None if act[1] in state[2] else "barter"


def word_of_goal(state, act):
    """The word for a goal, or for none."""
    book, stock, nails = state[:3]
    if act[1] is None:
        return None
    if not is_stock(book, act[1]):
        return "stock"
    try:
        free_account(book, stock, act[1], nails)
    except NoAccount:
        return "account"
    return None


def word_of_bring(state, act):
    """The word for goods that come."""
    return None if is_stock(state[0], act[1]) else "row"


def word_of_fetch(state, act):
    """The word for goods that go."""
    book, stock, _, goal = state[:4]
    if not is_stock(book, act[1]):
        return "row"
    if not is_enough(combined(1, stock, -1, act[1])):
        return "few"
    return None if goal is None or is_enough(combined(1, goal, -1, act[1])) else "goal"


def word_of_add(state, act):
    """The word for a new barter."""
    book = state[0]
    if not is_word(act[1]) or book.has_barter(act[1]):
        return "name"
    if wrong_row(act[2], len(book.goods())) is not None:
        return "row"
    return "many" if len(book.names()) >= MOST_BARTERS else None


def word_of_drop(state, act):
    """The word for a barter that leaves."""
    if not state[0].has_barter(act[1]):
        return "barter"
    return "goal" if asked(state, act[1]) != 0 else None


def word_of_good(state, act):
    """The word for a new good."""
    book = state[0]
    if not is_word(act[1]) or book.has_good(act[1]):
        return "name"
    return "many" if len(book.goods()) >= MOST_GOODS else None


def word_of_lose(state, act):
    """The word for a good that leaves."""
    book = state[0]
    if not book.has_good(act[1]):
        return "good"
    j = book.good_number(act[1])
    return "barter" if any([row[j] != 0 for _, row in book.barters()]) else None


WORDS_OF = {
    "do": word_of_do, "nail": word_of_nail, "free": word_of_free, "goal": word_of_goal, "bring": word_of_bring,
    "fetch": word_of_fetch, "add": word_of_add, "drop": word_of_drop, "good": word_of_good, "lose": word_of_lose,
}


def state_after(state, act):
    """The state to which an act leads."""
    word = act_word(state, act)
    if word is not None:
        raise BadAct(word)
    state_behind = STATES_BEHIND[act[0]]
    return state_behind(state, act)


def is_good_act(state, act):
    """Tells whether the value is an act at the state that leads to a good book."""
    return act_word(state, act) is None and is_good_book(state_after(state, act)[0])


def behind_do(state, act):
    """The state behind a deed."""
    book, stock, nails, goal, plan = state
    left = None if plan is None else plan_behind(book, plan, act[1:])
    return (book, done(book, stock, act[1:]), nails, goal, left)


def behind_nail(state, act):
    """The state in which one more barter is nailed."""
    book, stock, nails, goal, plan = state
    more = tuple([name for name in book.names() if name in nails or name == act[1]])
    return (book, stock, more, goal, plan)


def behind_free(state, act):
    """The state in which a barter is nailed no longer."""
    book, stock, nails, goal, plan = state
    return (book, stock, without_name(nails, act[1]), goal, plan)


def without_name(names, name):
    """The tuple of the names other than this one."""
    return tuple([other for other in names if other != name])


def behind_goal(state, act):
    """The state with a new goal, or without one."""
    book, stock, nails = state[:3]
    plan = None if act[1] is None else free_account(book, stock, act[1], nails)
    return (book, stock, nails, act[1], plan)


def behind_bring(state, act):
    """The state in which goods have come."""
    return with_goods(state, 1, act[1])


def behind_fetch(state, act):
    """The state in which goods have gone."""
    return with_goods(state, -1, act[1])


def with_goods(state, way, row):
    """The state with so many of each good more, or fewer if way is -1."""
    book, stock, nails, goal, plan = state
    return (book, combined(1, stock, way, row), nails, None if goal is None else combined(1, goal, way, row), plan)


def behind_add(state, act):
    """The state with a new barter."""
    book, stock, nails, goal, plan = state
    return (with_barter(book, act[1], act[2]), stock, nails, goal, with_nought(plan))


def behind_drop(state, act):
    """The state without a barter."""
    book, stock, nails, goal, plan = state
    left = without_place(plan, book.barter_number(act[1]))
    return (without_barter(book, act[1]), stock, without_name(nails, act[1]), goal, left)


def behind_good(state, act):
    """The state with a new good."""
    book, stock, nails, goal, plan = state
    wider = Book(book.goods() + [act[1]], [(name, with_nought(row)) for name, row in book.barters()])
    return (wider, with_nought(stock), nails, with_nought(goal), plan)


def behind_lose(state, act):
    """The state without a good."""
    book, stock, nails, goal, plan = state
    j = book.good_number(act[1])
    goods = without_name(book.goods(), act[1])
    lesser = Book(goods, [(name, without_place(row, j)) for name, row in book.barters()])
    return (lesser, without_place(stock, j), nails, without_place(goal, j), plan)


def with_nought(row):
    """The row with 0 behind its end; None for None."""
    return None if row is None else row + (0,)


def without_place(row, place):
    """The row without the number at this place; None for None."""
    return None if row is None else row[:place] + row[place + 1:]


STATES_BEHIND = {
    "do": behind_do, "nail": behind_nail, "free": behind_free, "goal": behind_goal, "bring": behind_bring,
    "fetch": behind_fetch, "add": behind_add, "drop": behind_drop, "good": behind_good, "lose": behind_lose,
}
