"""Least rays: tuples of integers of at least 0 that are even by some rows, with as few places above 0 as can be."""

from math import gcd

from eitherbarter.solving import combined, idle_stairs_of, unit
from eitherbarter.splitting import mask_of


def product_of(row, numbers):
    """The sum of the numbers of a row, each multiplied by the number at its place."""
    return sum([number * more for number, more in zip(row, numbers)])


def in_lowest(row):
    """The row of integers, not all 0, divided by the greatest common divisor of its numbers."""
    divisor = 0
    for number in row:
        divisor = gcd(divisor, number)
    return tuple([number // divisor for number in row])


def rows_across(rows, many):
    """The rows that make up all rows of so many integers whose products with each of the rows are 0."""
    columns = [tuple([row[j] for row in rows]) for j in range(many)]
    return idle_stairs_of(columns, len(rows))


def least_rays(rows, many):
    """The least rays of so many numbers, ascending: each has the product 0 with each of the rows.

    Row by row the rays are kept that have the product 0, and of each two with products of both signs the sum
    that has it. Those that are above 0 at more places than another one are left out.
    """
    rays = [unit(many, j) for j in range(many)]
    for row in rows:
        rays = rays_at(rays, row)
    return sorted(rays)


def rays_at(rays, row):
    """The least rays among the sums of such rays that have the product 0 with one more row."""
    products = [product_of(row, ray) for ray in rays]
    # Each of the pairs tells how often which two rays are added up; it is found by the mask of its places.
    pairs = {}
    for k, ray in enumerate(rays):
        if products[k] == 0:
            pairs[mask_of(ray)] = (1, ray, 0, ray)
        for other in range(k):
            if products[k] * products[other] < 0:
                pair = (abs(products[other]), ray, abs(products[k]), rays[other])
                pairs.setdefault(mask_of(ray) | mask_of(rays[other]), pair)
    chosen = [pairs[mask] for mask in least_masks(list(pairs))]
    return [in_lowest(combined(a, one, b, other)) for a, one, b, other in chosen]


def least_masks(masks):
    """The list of those masks that have no other one within them."""
    least = []
    # A mask within another one is a lesser number.
    for mask in sorted(masks):
        if not any([other & mask == other for other in least]):
            least.append(mask)
    return least
