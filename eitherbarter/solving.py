"""Stairs: the rows of which all balances, or all idle accounts, are sums in one way only."""


def stairs(book):
    """The list of the stairs of the book, in order."""
    return stairs_of([barter[1] for barter in book.barters()])


def idle_stairs(book):
    """The list of the idle stairs of the book, in order."""
    return idle_stairs_of([barter[1] for barter in book.barters()], len(book.goods()))


def rest(book, row):
    """The rest of a row."""
    return rest_by(stairs(book), row)


def is_balance(book, row):
    """Tells whether the row is the balance of some account."""
    return head_place(rest(book, row)) is None


def unit(many, place):
    """The row of so many noughts, but with 1 at this place."""
    return tuple([1 if k == place else 0 for k in range(many)])


def head_place(row):
    """The place of the first number that is not 0, or None."""
    for place, number in enumerate(row):
        if number != 0:
            return place
    return None


def times_row(a, row):
    """The row multiplied by a."""
    return tuple([a * number for number in row])


def combined(a, row, b, other):
    """The row multiplied by a, and the other one by b, added up."""
    return tuple([a * number + b * more for number, more in zip(row, other)])


def told_stairs(rows):
    """The stairs of all sums of the rows, each of which tells behind its end how often each row is in the sum."""
    return stairs_of([row + unit(len(rows), k) for k, row in enumerate(rows)])


def idle_stairs_of(rows, many):
    """The stairs of all tuples by whose numbers the rows, of so many numbers each, add up to noughts."""
    # The stairs whose heads stand behind the end of the rows have a sum of noughts, and all such sums are
    # made of these.
    return [row[many:] for row in told_stairs(rows) if head_place(row) >= many]


def stairs_of(rows):
    """The stairs of all sums of the rows multiplied by integers."""
    found = []
    for row in rows:
        found = lowered(with_row(found, row))
    return found


def with_row(found, row):
    """Rows with ascending head places and heads above 0 that have the same sums as the stairs and the row."""
    steps = {head_place(stair): stair for stair in found}
    place = head_place(row)
    while place in steps:
        steps[place], row = shared_out(steps[place], row, place)
        place = head_place(row)
    if place is not None:
        steps[place] = row if row[place] > 0 else times_row(-1, row)
    return [steps[at] for at in sorted(steps)]


def shared_out(step, row, place):
    """Two rows that have the same sums as these two; only the first one has a number, above 0, at the place."""
    divisor, a, b = bezout(step[place], row[place])
    return combined(a, step, b, row), combined(row[place] // divisor, step, -step[place] // divisor, row)


def bezout(one, other):
    """Integers (d, a, b): d = a * one + b * other is the greatest common divisor of the two; one is above 0."""
    high = (one, 1, 0)
    low = (other, 0, 1)
    while low[0] != 0:
        many = high[0] // low[0]
        high, low = low, combined(1, high, -many, low)
    return high if high[0] > 0 else times_row(-1, high)


def lowered(found):
    """The rows, each less multiples of the later ones, such that the numbers above heads are right."""
    done = []
    for row in reversed(found):
        done = [rest_by(done, row)] + done
    return done


def rest_by(found, row):
    """The rest of a row by stairs."""
    for stair in found:
        place = head_place(stair)
        row = combined(1, row, -(row[place] // stair[place]), stair)
    return row
