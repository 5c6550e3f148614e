"""Plans of what is due: how deeds change them, and accounts without some barters."""

from eitherbarter.accounts import account_of, check_account
from eitherbarter.books import Book
from eitherbarter.carrying import many_deeds


def plan_behind(book, plan, deed):
    """What is left of a plan behind a deed, whether the plan asks for the deed or not."""
    name, direction = deed
    k = book.barter_number(name)
    return plan[:k] + (plan[k] - direction,) + plan[k + 1:]


def plan_after(book, account, script):
    """The account less what a script does."""
    return plans_along(book, account, script)[-1]


def plans_along(book, account, script):
    """The list of what is left of an account: at first, and behind each deed of a script."""
    check_account(book, account)
    plans = [account]
    for deed in script:
        plans.append(plan_behind(book, plans[-1], deed))
    return plans


def dues_after(book, account, script):
    """The list of how many deeds are due: by the account, and behind each deed of a script."""
    return [many_deeds(plan) for plan in plans_along(book, account, script)]


def wasted(book, account, script):
    """How many deeds of a script are in vain, and must be taken back or must be done once more than was due."""
    dues = dues_after(book, account, script)
    return len(script) - dues[0] + dues[-1]


def free_account(book, f, g, names):
    """The reduced account from f to g of the book without some barters, with 0 for these."""
    left_out = [book.barter_number(name) for name in names]
    kept = [k for k in range(len(book.names())) if k not in left_out]
    barters = book.barters()
    lesser = Book(book.goods(), [barters[k] for k in kept])
    told = dict(zip(kept, account_of(lesser, f, g)))
    return tuple([told.get(k, 0) for k in range(len(barters))])
