"""Fractions: pairs of integers in lowest terms, the second one at least 1."""

from math import gcd

from eitherbarter.words import is_integer


def lowest(a, b):
    """The fraction a / b of two integers; b is not 0."""
    divisor = gcd(a, b) if b > 0 else -gcd(a, b)
    return (a // divisor, b // divisor)


def added(one, other):
    """The sum of two fractions."""
    return lowest(one[0] * other[1] + other[0] * one[1], one[1] * other[1])


def times(one, other):
    """The product of two fractions."""
    return lowest(one[0] * other[0], one[1] * other[1])


def is_fraction(value):
    """Tells whether the value is a fraction."""
    if not isinstance(value, tuple) or len(value) != 2:
        return False
    a, b = value
    return is_integer(a) and is_integer(b) and b >= 1 and gcd(a, b) == 1


def row_sum(row, fractions):
    """The sum of the integers of the row, each multiplied by the fraction at its place."""
    total = (0, 1)
    for number, fraction in zip(row, fractions):
        total = added(total, times((number, 1), fraction))
    return total
