"""Pumps and gains: accounts by which there is more and nowhere less; and the papers of goods."""

from eitherbarter.accounts import balance
from eitherbarter.errors import BadAccount
from eitherbarter.gains import account_for_all, account_up_to, gains_of
from eitherbarter.stocks import is_enough
from eitherbarter.weights import is_keeper, least_keepers


def least_gains(book):
    """The list of the least gains, ascending."""
    return gains_of(book)


def pump_of(book):
    """Any pump, or None if there is none."""
    gains = gains_of(book)
    return account_up_to(book, gains[0]) if gains else None


def great_pump(book):
    """Any pump that pumps all goods that can be pumped, or None if no good can be pumped."""
    gains = gains_of(book)
    return account_for_all(book, gains) if gains else None


def judge_pump(book, value):
    """Tells whether the value is a pump."""
    row = pumped_row(book, value)
    return row is not None and any(row)


def pumped_row(book, value):
    """The balance of the value if it is an account by which no number becomes less, or None."""
    try:
        row = balance(book, value)
    except BadAccount:
        return None
    return row if is_enough(row) else None


def kept_goods(book):
    """The list of the goods that are kept."""
    return goods_of(book, least_keepers(book))


def pumped_goods(book):
    """The list of the goods that can be pumped."""
    return goods_of(book, gains_of(book))


def goods_of(book, rows):
    """The list of the goods at which some of the rows is not 0."""
    return [good for j, good in enumerate(book.goods()) if any([row[j] != 0 for row in rows])]


def good_paper(book, good):
    """Any paper of a good."""
    j = book.good_number(good)
    for keeper in least_keepers(book):
        if keeper[j] > 0:
            return ("kept", keeper)
    gains = [gain for gain in gains_of(book) if gain[j] > 0]
    return ("pumped", account_up_to(book, gains[0]))


def judge_good_paper(book, good, value):
    """Tells whether the value is a paper of the good."""
    j = book.good_number(good)
    if not isinstance(value, tuple) or len(value) != 2:
        return False
    word, told = value
    if word == "kept":
        return is_keeper(book, told) and told[j] > 0
    if word == "pumped":
        row = pumped_row(book, told)
        return row is not None and row[j] > 0
    return False
