"""Rows combined anew, such that they are short and nearly upright to one another.

This is the method of Lenstra, Lenstra and Lovasz, in integers. How long rows are is told by squares, one for each
of the places that count: each number there counts as often as its square tells. A table tells of rows how far each
one leans on the ones ahead of it: its number k at the row k is the square of the volume of the rows up to this one,
and its number k at a later row, divided by this, tells how often the upright part of the row k is in that row.
"""

from eitherbarter.solving import combined


def short_rows(rows, squares):
    """Rows that make up the same sums as these; as for their upright parts, none is much shorter than the one ahead."""
    rows = list(rows)
    k = 1
    while k < len(rows):
        table = table_of(rows[:k + 1], squares)
        rows[k], lean = lessened(rows[k], table[k], rows[:k], table)
        before = table[k - 2][k - 2] if k > 1 else 1
        if 4 * table[k][k] * before >= 3 * table[k - 1][k - 1] * table[k - 1][k - 1] - 4 * lean * lean:
            k += 1
        else:
            rows[k - 1], rows[k] = rows[k], rows[k - 1]
            k = max(1, k - 1)
    return rows


def lessened(row, numbers, others, table):
    """The row less multiples of the others, such that it hardly leans on them, and how far it leans on the last one.

    The numbers are those of the table at this row.
    """
    lean = 0
    for k in reversed(range(len(others))):
        many = (2 * numbers[k] + table[k][k]) // (2 * table[k][k])
        row = combined(1, row, -many, others[k])
        numbers = combined(1, numbers, -many, table[k])
        if k == len(others) - 1:
            lean = numbers[k]
    return row, lean


def table_of(rows, squares):
    """The table of some rows."""
    table = []
    for row in rows:
        numbers = []
        for k in range(len(table) + 1):
            other = numbers if k == len(table) else table[k]
            number = product_by(squares, row, rows[k])
            before = 1
            for j in range(k):
                # This leaves no remainder, as all numbers of the table are minors.
                number = (table[j][j] * number - numbers[j] * other[j]) // before
                before = table[j][j]
            numbers.append(number)
        table.append(numbers)
    return table


def product_by(squares, row, other):
    """The product of two rows, in which each place counts as often as its square tells."""
    return sum([square * one * more for square, one, more in zip(squares, row, other)])
