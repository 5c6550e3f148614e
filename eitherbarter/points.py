"""Accounts by which a row becomes a stock, in books with weights.

The rows that come of a row by fractions of barters, with no number below 0, are a body whose corners are known.
Barters are combined anew, such that they are short as seen in this body. Then either the body is so wide that its
middle is near a stock, or just a few multiples of the last barter lead into it; for each of them the others are left.
"""

from math import lcm

from eitherbarter.rays import least_rays, product_of, rows_across
from eitherbarter.shortrows import short_rows
from eitherbarter.solving import combined, unit
from eitherbarter.stocks import is_enough

# How finely the body is looked at.
PARTS = 1000


def account_from(book, row):
    """Any account by which the row becomes a stock, or None if there is none."""
    barters = book.barters()
    # Behind each row stands the account by which it is made.
    basis = [barter[1] + unit(len(barters), k) for k, barter in enumerate(barters)]
    found = stock_from(row + (0,) * len(barters), basis, len(row))
    return None if found is None else found[len(row):]


def stock_from(point, basis, many):
    """The point plus multiples of the basis such that none of its first numbers, so many, is below 0, or None."""
    if is_enough(point[:many]):
        return point
    if not basis:
        return None
    corners = corners_of(point[:many], [row[:many] for row in basis])
    if not corners:
        return None
    *others, last = short_rows(basis, squares_of(corners))
    low, high = bounds_of(corners, point[:many], [row[:many] for row in others], last[:many])
    for step in range(high - low + 1):
        # The middle is tried first, as there is the most room.
        number = (low + high) // 2 + outward(step)
        found = stock_from(combined(1, point, number, last), others, many)
        if found is not None:
            return found
    return None


def outward(step):
    """The numbers 0, 1, -1, 2, -2, .. for the steps 0, 1, 2, .."""
    return (step + 1) // 2 if step % 2 == 1 else -(step // 2)


def corners_of(point, rows):
    """The corners of the body of a point and of rows: behind the numbers of each stands by what they are divided."""
    across = rows_across(rows, len(point))
    return least_rays([row + (-product_of(row, point),) for row in across], len(point) + 1)


def bounds_of(corners, point, others, last):
    """The least and the greatest integer by which the last row can be multiplied so as to stay within the corners."""
    # A row that is even by the others tells how often the last one is in what leads to a corner.
    across = [row for row in rows_across(others, len(point)) if product_of(row, last) != 0][0]
    size = product_of(across, last)
    lows = []
    highs = []
    for corner in corners:
        number = product_of(across, corner) - corner[-1] * product_of(across, point)
        lows.append(-(-number * size // (corner[-1] * size * size)))
        highs.append(number * size // (corner[-1] * size * size))
    return min(lows), max(highs)


def squares_of(corners):
    """For each place the square of a factor that makes the body about as wide there as everywhere else."""
    whole = 1
    for corner in corners:
        whole = lcm(whole, corner[-1])
    spans = []
    for place in range(len(corners[0]) - 1):
        numbers = [corner[place] * (whole // corner[-1]) for corner in corners]
        spans.append(max(numbers) - min(numbers))
    # Where the body has no width at all, the factor is to be greater than all others.
    narrow = PARTS * PARTS * max(spans)
    factors = [PARTS * max(spans) // span if span > 0 else narrow + 1 for span in spans]
    return [factor * factor for factor in factors]
