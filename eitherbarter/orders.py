"""Orders of the deeds of an account: judged, told, counted and numbered, moment by moment."""

from eitherbarter.errors import BadOrder, TooGreat
from eitherbarter.moments import good_task, levels_of
from eitherbarter.tasks import done_so_far, one_more, step_on


def judge_order(book, f, account, value):
    """None if the value is a doable order of the account, and otherwise why it is none."""
    task = good_task(book, f, account)
    if not isinstance(value, (list, tuple)):
        return ("form",)
    moment = task.first
    for at, name in enumerate(value):
        if not book.has_barter(name) or book.barter_number(name) not in task.waiting(moment):
            return ("name", at)
        moment = one_more(moment, book.barter_number(name))
    short = task.waiting(moment)
    if short:
        return ("short", task.words[short[0]])
    steps, _ = steps_along(book, task, value)
    return None if len(steps) == len(value) else ("deed", len(steps))


def steps_along(book, task, value):
    """The numbers of the barters that the members of a list name, up to the first wrong one, and the moment behind."""
    steps = []
    moment = task.first
    stock = task.start
    for name in value:
        if not book.has_barter(name) or book.barter_number(name) not in task.ready(moment, stock):
            return steps, moment
        steps.append(book.barter_number(name))
        moment, stock = step_on(task, moment, stock, steps[-1])
    return steps, moment


def whole_steps(book, task, value):
    """The numbers of the barters of what should be a doable order."""
    steps, moment = steps_along(book, task, value)
    if len(steps) < len(value) or moment != task.amounts:
        raise BadOrder(len(steps))
    return steps


def any_order(book, f, account):
    """Any doable order of the account."""
    task = good_task(book, f, account)
    return order_by(task, done_so_far(task)[0])


def order_by(task, steps):
    """The order that the numbers of barters tell."""
    return tuple([task.words[k] for k in steps])


def order_script(book, f, account, value):
    """The script that a doable order tells."""
    task = good_task(book, f, account)
    return [task.deed(k) for k in whole_steps(book, task, value)]


def count_orders(book, f, account):
    """The number of the doable orders of the account."""
    task = good_task(book, f, account)
    return counts_of(task)[task.first]


def counts_of(task):
    """The dict that tells for each moment how many ways lead on from it to the last one."""
    levels = levels_of(task, None)
    counts = {task.amounts: 1}
    for level in reversed(levels[:-1]):
        for moment, stock in level.items():
            counts[moment] = sum([counts[one_more(moment, k)] for k in task.ready(moment, stock)])
    return counts


def order_at(book, f, account, number):
    """The doable order with this number."""
    task = good_task(book, f, account)
    counts = counts_of(task)
    if number >= counts[task.first]:
        raise TooGreat()
    return numbered_order(task, counts, number)


def numbered_order(task, counts, number):
    """The doable order with a number that is below the number of all."""
    steps = []
    moment = task.first
    stock = task.start
    while moment != task.amounts:
        ready = task.ready(moment, stock)
        # Those are passed over by which only orders with lesser numbers go on.
        while number >= counts[one_more(moment, ready[0])]:
            number -= counts[one_more(moment, ready[0])]
            ready = ready[1:]
        steps.append(ready[0])
        moment, stock = step_on(task, moment, stock, ready[0])
    return order_by(task, steps)


def order_number(book, f, account, value):
    """The number of a doable order."""
    task = good_task(book, f, account)
    steps = whole_steps(book, task, value)
    return number_of(task, counts_of(task), steps)


def number_of(task, counts, steps):
    """How many doable orders come before the one that the numbers of barters tell."""
    before = 0
    moment = task.first
    stock = task.start
    for k in steps:
        earlier = [other for other in task.ready(moment, stock) if other < k]
        before += sum([counts[one_more(moment, other)] for other in earlier])
        moment, stock = step_on(task, moment, stock, k)
    return before


def next_order(book, f, account, value):
    """The doable order with the next number, or None if this is the last one."""
    task = good_task(book, f, account)
    steps = whole_steps(book, task, value)
    counts = counts_of(task)
    number = number_of(task, counts, steps) + 1
    return numbered_order(task, counts, number) if number < counts[task.first] else None


def drawn_order(book, f, account, number):
    """The doable order whose number is the remainder of this one, divided by the number of all."""
    task = good_task(book, f, account)
    counts = counts_of(task)
    return numbered_order(task, counts, number % counts[task.first])


def orders_beginning(book, f, account, value):
    """How many doable orders begin with the members of the list."""
    task = good_task(book, f, account)
    steps, moment = steps_along(book, task, value)
    return counts_of(task)[moment] if len(steps) == len(value) else 0
