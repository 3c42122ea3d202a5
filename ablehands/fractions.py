"""Fractions as tuples (a, b) of whole numbers, b from 1 on; told ones are in lowest terms."""

from ablehands.books import is_whole


def common(a, b):
    """The greatest number that divides both, b from 1 on."""
    while b != 0:
        a, b = b, a % b
    return a


def lowest(a, b):
    """The fraction of a and b in lowest terms, b from 1 on."""
    most = common(a, b)
    return (a // most, b // most)


def plus(one, other):
    """The sum of both."""
    return lowest(one[0] * other[1] + other[0] * one[1], one[1] * other[1])


def is_less(one, other):
    """Whether the one is less than the other."""
    return one[0] * other[1] < other[0] * one[1]


def is_fraction(thing):
    """Whether the thing, which may be anything, is a fraction from 0 on, in lowest terms or not."""
    if not isinstance(thing, tuple) or len(thing) != 2:
        return False
    return all([is_whole(part) for part in thing]) and thing[0] >= 0 and thing[1] >= 1


def total(some):
    """The sum of these fractions, nought where there are none."""
    so_far = (0, 1)
    for one in some:
        so_far = plus(so_far, one)
    return so_far
