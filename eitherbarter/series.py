"""Series: how many stocks, and how many lots, there are of each weight."""

from math import gcd

from eitherbarter.rays import product_of
from eitherbarter.tasks import check_good


def stock_series(weights, most):
    """The list of the numbers of stocks of the weights 0 to most."""
    numbers = [1] + [0] * most
    for step in weights:
        for place in range(step, most + 1):
            numbers[place] += numbers[place - step]
    return numbers


def lot_series(book, weights, most):
    """The list of the numbers of lots of the weights 0 to most."""
    check_good(book)
    numbers = stock_series(weights, most)
    for step in taken_weights(book, weights):
        for place in range(most, step - 1, -1):
            numbers[place] -= numbers[place - step]
    return numbers


def taken_weights(book, weights):
    """The list of the weights of what the barters take."""
    return [product_of([max(0, -entry) for entry in row], weights) for _, row in book.barters()]


def is_full(book):
    """Tells whether a good book is full."""
    return len(book.goods()) == len(book.names()) + 1


def mirror(book, weights):
    """The triple (A, G, C) that tells of which weights the lots add up to which number, or None."""
    check_good(book)
    if not is_full(book):
        return None
    taken = taken_weights(book, weights)
    divisor = 0
    for number in weights:
        divisor = gcd(divisor, number)
    whole = divisor * product_of_all(taken) // product_of_all(weights)
    return (sum(taken) - sum(weights), divisor, whole)


def product_of_all(numbers):
    """The product of all numbers, 1 if there are none."""
    whole = 1
    for number in numbers:
        whole *= number
    return whole
