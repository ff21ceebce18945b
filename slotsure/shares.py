"""FRACTIONS: pairs (A, B) of whole numbers in lowest terms, B from 1 on."""

from math import gcd

from slotsure.errors import BadNumber
from slotsure.words import is_row

ZERO = (0, 1)


def is_share(thing):
    """True of a FRACTION, False of any other thing."""
    if not is_row(thing, 2, 2) or not _are_ints(thing):
        return False
    # The greatest number in both 0 and B is B: so of 0 it wants B to be 1.
    return thing[1] >= 1 and gcd(thing[0], thing[1]) == 1


def share(a, b):
    """The FRACTION a / b in lowest terms, its sign above."""
    if not _are_ints((a, b)):
        raise BadNumber("a FRACTION is made of two whole numbers")
    if b == 0:
        raise BadNumber("0 can't stand beneath")
    return _lowest(a, b) if b > 0 else _lowest(-a, -b)


def plus(one, other):
    """The two FRACTIONS added."""
    need_share(one)
    need_share(other)
    return quick_plus(one, other)


def times(one, other):
    """The two FRACTIONS multiplied."""
    need_share(one)
    need_share(other)
    return quick_times(one, other)


def need_share(thing):
    """None of a FRACTION, BadNumber of any other thing."""
    if not is_share(thing):
        raise BadNumber("a FRACTION is a pair of whole numbers in lowest terms, the second from 1 on")


def quick_plus(one, other):
    """What are known to be FRACTIONS added."""
    a, b = one
    c, d = other
    if b == d == 1:
        return a + c, 1
    return _lowest(a * d + c * b, b * d)


def quick_times(one, other):
    """What are known to be FRACTIONS multiplied."""
    a, b = one
    c, d = other
    if b == d == 1:
        return a * c, 1
    return _lowest(a * c, b * d)


def _lowest(a, b):
    common = gcd(a, b)
    return a // common, b // common


def _are_ints(things):
    # Not isinstance: True and False are instances of int, too.
    return all([type(thing) == int for thing in things])
