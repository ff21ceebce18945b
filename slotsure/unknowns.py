"""Entries of ARRAYS as unknowns, polynomials in these, and whole numbers at which one isn't 0.

An unknown is a pair of a BOX and the least of the ROWS that its GROUP makes of one
another. A product is a rising tuple of unknowns, each as often as it is multiplied;
a polynomial is a dict of FRACTIONS, none of them 0, by products.
"""

from slotsure.gears import moved
from slotsure.shares import quick_times
from slotsure.tables import add_at


def orbit(group, row):
    """The least ROW that the GROUP makes of this one, and the SIGN at each, against what stands at the least.

    Where a MOVE with -1 makes a ROW of itself, all SIGNS are 0.
    """
    signs = {}
    dead = False
    for order, sign in group:
        other = moved(row, order)
        dead = signs.setdefault(other, sign) != sign or dead
    least = sorted(signs)[0]
    return least, {other: 0 if dead else sign * signs[least] for other, sign in signs.items()}


def add_counts(polynomial, counts, fraction):
    """Adds to the polynomial products that are told with how often each comes, times the FRACTION."""
    for product, count in counts.items():
        add_at(polynomial, product, quick_times(fraction, (count, 1)))


def without_noughts(told):
    """The dict without what is 0."""
    return {key: fraction for key, fraction in told.items() if fraction[0] != 0}


def numbers_for(polynomial):
    """Small numbers from 1 on, for the unknowns of one product, at which the polynomial isn't 0, all others being 0."""
    _, chosen = sorted([(len(product), product) for product in polynomial])[0]
    kept = sorted(set(chosen))
    left = {
        product: fraction for product, fraction in polynomial.items()
        if all([unknown in kept for unknown in product])
    }
    told = {}
    for unknown in kept:
        # Seen as a polynomial in this unknown alone it has few numbers at which all of it is 0.
        number = 1
        while not _set_to(left, unknown, number):
            number += 1
        told[unknown] = number
        left = _set_to(left, unknown, number)
    return told


def arrays_by(gear, groups, numbers):
    """ARRAYS that keep the MOVES, with these numbers for unknowns, and 0 for all others."""
    rows = {name: [] for name, _, _ in gear[1]}
    for (box, least), number in numbers.items():
        _, signs = orbit(groups[box], least)
        rows[box].extend([(row, (sign * number, 1)) for row, sign in signs.items()])
    return tuple([tuple(sorted(rows[name])) for name, _, _ in gear[1]])


def _set_to(polynomial, unknown, number):
    """The polynomial with this number for the unknown."""
    made = {}
    for product, fraction in polynomial.items():
        rest = tuple([other for other in product if other != unknown])
        power = 1
        for _ in range(len(product) - len(rest)):
            power = power * number
        add_at(made, rest, quick_times(fraction, (power, 1)))
    return without_noughts(made)
