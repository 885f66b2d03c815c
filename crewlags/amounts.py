"""Exact numbers: integers, or fractions as tuples (top, bottom) in lowest terms.

Reckoning is done with integers: all numbers of a call are multiplied by one
bottom that they share, and only what is returned becomes a fraction again.
"""

from math import gcd, lcm

from crewlags.kinds import is_whole


def is_amount(value):
    """Whether a value is an integer from 0 on, or a fraction above 0."""
    if is_whole(value):
        return value >= 0
    if not isinstance(value, tuple) or len(value) != 2:
        return False
    top, bottom = value
    if not is_whole(top) or not is_whole(bottom):
        return False
    return top > 0 and bottom > 1 and gcd(top, bottom) == 1


def amounts_fault(values, least, most):
    """-1 if values is no tuple of least to most items, the index of the first that is no amount, or None."""
    if not isinstance(values, tuple) or not least <= len(values) <= most:
        return -1
    for at, value in enumerate(values):
        if not is_amount(value):
            return at
    return None


def shared_bottom(amounts):
    """The least integer that makes integers of all the amounts when they are multiplied by it."""
    bottom = 1
    for amount in amounts:
        if isinstance(amount, tuple):
            bottom = lcm(bottom, amount[1])
    return bottom


def times_bottom(amounts, bottom):
    """The list of the amounts, each multiplied by a bottom that they share."""
    return [amount[0] * (bottom // amount[1]) if isinstance(amount, tuple) else amount * bottom for amount in amounts]


def number(top, bottom):
    """The number top through bottom, bottom above 0."""
    shared = gcd(top, bottom)
    if shared == bottom:
        return top // bottom
    return top // shared, bottom // shared


def numbers(tops, bottom):
    """The tuple of the numbers top through bottom."""
    return tuple([number(top, bottom) for top in tops])


def sum_of(amounts):
    """The sum of amounts."""
    bottom = shared_bottom(amounts)
    return number(sum(times_bottom(amounts, bottom)), bottom)


def sum_of_products(ones, others):
    """The sum of the products of amounts side by side."""
    one, other = shared_bottom(ones), shared_bottom(others)
    products = [left * right for left, right in zip(times_bottom(ones, one), times_bottom(others, other))]
    return number(sum(products), one * other)
