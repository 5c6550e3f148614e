"""Accounts: how often each barter is to be done, and in which direction, on paper."""

from eitherbarter.errors import BadAccount, BadPrices, NoAccount
from eitherbarter.fractions import is_fraction, lowest, row_sum, times
from eitherbarter.solving import combined, head_place, idle_stairs, rest_by, stairs, told_stairs
from eitherbarter.words import is_integer, is_number


def balance(book, account):
    """The balance of an account."""
    check_account(book, account)
    row = (0,) * len(book.goods())
    for number, barter in zip(account, book.barters()):
        row = combined(1, row, number, barter[1])
    return row


def check_account(book, account):
    """Raises BadAccount with the path of the first wrong part of what should be an account, if there is one."""
    if not isinstance(account, tuple) or len(account) != len(book.names()):
        raise BadAccount(())
    for k, number in enumerate(account):
        if not is_integer(number):
            raise BadAccount((k,))


def account_of(book, f, g):
    """The reduced account from one stock to another one."""
    account = account_by(stairs_with_accounts(book), f, g)
    if account is None:
        raise NoAccount(no_account_row(book, f, g))
    return account


def stairs_with_accounts(book):
    """The stairs of the book, each with an account of it behind, and then the idle stairs behind noughts."""
    return told_stairs([barter[1] for barter in book.barters()])


def account_by(steps, f, g):
    """The reduced account from f to g by these stairs, or None if there is none."""
    many = len(f)
    behind = (0,) * (len(steps[0]) - many if steps else 0)
    # What is taken off f less g to come to noughts is the account turned about; so behind the noughts stands
    # the account itself, and the idle stairs have reduced it.
    left = rest_by(steps, combined(1, f, -1, g) + behind)
    return None if any([number != 0 for number in left[:many]]) else left[many:]


def judge_account(book, f, g, value):
    """Tells whether the value is an account from f to g, reduced or not."""
    try:
        return balance(book, value) == combined(1, g, -1, f)
    except BadAccount:
        return False


def no_account_row(book, f, g):
    """Any no-account row for f and g, or None if there is an account."""
    found = stairs(book)
    left = rest_by(found, combined(1, g, -1, f))
    place = head_place(left)
    if place is None:
        return None
    row = [(0, 1)] * len(f)
    row[place] = lowest(1, 2 * left[place])
    for stair in reversed(found):
        at = head_place(stair)
        if at == place:
            row[at] = (1, stair[at])
        elif at < place:
            # There is 0 at this place yet, so what is missing makes the sum of this stair 0.
            row[at] = times(row_sum(stair, row), (-1, stair[at]))
    return tuple(row)


def judge_no_account(book, f, g, value):
    """Tells whether the value is a no-account row for f and g."""
    if not isinstance(value, tuple) or len(value) != len(book.goods()):
        return False
    if not all([is_fraction(member) for member in value]):
        return False
    if is_whole(row_sum(combined(1, g, -1, f), value)):
        return False
    return all([is_whole(row_sum(barter[1], value)) for barter in book.barters()])


def is_whole(fraction):
    """Tells whether a fraction is an integer."""
    return fraction[1] == 1


def reduced(book, account):
    """The reduced account that comes of an account by adding an idle one."""
    check_account(book, account)
    return rest_by(idle_stairs(book), account)


def cost(book, account, prices):
    """The cost of an account at prices."""
    check_account(book, account)
    check_prices(book, prices)
    return cost_of(account, prices)


def cost_of(account, prices):
    """The cost of what is an account for sure, at what are prices for sure."""
    return sum([abs(number) * price for number, price in zip(account, prices)])


def check_prices(book, prices):
    """Raises BadPrices with the path of the first wrong part of what should be prices, if there is one."""
    if not isinstance(prices, (list, tuple)) or len(prices) != len(book.names()):
        raise BadPrices(())
    for k, price in enumerate(prices):
        if not is_number(price):
            raise BadPrices((k,))


def account_deeds(book, account):
    """The list of the triples (name, direction, many) for the barters whose number is not 0."""
    check_account(book, account)
    pairs = list(zip(book.names(), account))
    return [(name, direction_of(number), abs(number)) for name, number in pairs if number != 0]


def direction_of(number):
    """1 for forward, -1 for back: how an account asks for a barter whose number is not 0."""
    return 1 if number > 0 else -1


def cancels_at(book, one, other):
    """The list of the names of the barters at which two accounts cancel."""
    check_account(book, one)
    check_account(book, other)
    names = book.names()
    return [name for k, name in enumerate(names) if one[k] < 0 < other[k] or other[k] < 0 < one[k]]
