"""Whether two SUMS are ALIKE AT told SIZES, by polynomials, and their LEAST SIZE."""

from slotsure.alike import difference, less, need_witness_width
from slotsure.arrays import need_sizes, sizes_by_name
from slotsure.errors import TooGreat
from slotsure.gears import group_table
from slotsure.limits import CHOICES
from slotsure.sums import need_same_free, need_sum
from slotsure.unknowns import add_counts, arrays_by, numbers_for, orbit, without_noughts


def alike_at(gear, sizes, one, other):
    """("alike",) or ("unlike", WITNESS) of these SIZES, one such; Unfit, TooGreat(CHOICES), TooGreat(WIDE)."""
    need_sizes(gear, sizes)
    need_sum(gear, one)
    need_sum(gear, other)
    need_same_free(one, other)
    parts = less(one, other)
    _need_few_choices(gear, sizes, parts)
    groups = group_table(gear, [term for _, term in parts])
    need_witness_width(groups, parts)
    witness = _witness_at(gear, groups, sizes, one[0], parts)
    return ("alike",) if witness is None else ("unlike", witness)


def least_size(gear, one, other):
    """(N, WITNESS), one such of the LEAST SIZE, None where they are ALIKE; Unfit, TooGreat of three kinds."""
    need_sum(gear, one)
    need_sum(gear, other)
    left = difference(gear, one, other)
    if not left:
        return None
    groups = group_table(gear, [term for _, term in left])
    size = 0
    witness = None
    # A WITNESS comes at the latest where each name of a TERM can have a number of its own.
    while witness is None:
        size += 1
        sizes = (size,) * len(gear[0])
        _need_few_choices(gear, sizes, one[1] + other[1])
        witness = _witness_at(gear, groups, sizes, one[0], left)
    return size, witness


def _need_few_choices(gear, sizes, parts):
    total = 0
    for _, term in parts:
        many = 1
        for limit in sizes_by_name(gear, sizes, term).values():
            many = many * limit
        total += many
    if total > CHOICES:
        raise TooGreat(CHOICES)


def _witness_at(gear, groups, sizes, free, parts):
    """A WITNESS of these SIZES that the SUM of these PARTS isn't ALIKE to the one without PARTS, or None."""
    known = {}
    polynomials = {}
    for fraction, term in parts:
        limits = sizes_by_name(gear, sizes, term)
        for place, counts in _counts_by_place(groups, known, limits, free, term).items():
            add_counts(polynomials.setdefault(place, {}), counts, fraction)
    for place in sorted(polynomials):
        polynomial = without_noughts(polynomials[place])
        if polynomial:
            return sizes, arrays_by(gear, groups, numbers_for(polynomial)), place
    return None


def _counts_by_place(groups, known, limits, free, term):
    """At each ROW of FREE's names the products that come of the TERM, and how often, with SIGNS."""
    names = list(limits)
    own = [names.index(name) for name, _, _ in free]
    factors = [(box, [names.index(name) for name in row]) for box, row in term]
    found = {}
    for numbers in _all_rows(list(limits.values())):
        sign = 1
        product = []
        for box, places in factors:
            unknown, factor = _entry(groups, known, box, tuple([numbers[at] for at in places]))
            sign = sign * factor
            product.append(unknown)
        counts = found.setdefault(tuple([numbers[at] for at in own]), {})
        key = tuple(sorted(product))
        counts[key] = counts.get(key, 0) + sign
    return found


def _entry(groups, known, box, row):
    """The unknown that stands at the ROW of the BOX, and its SIGN there, 0 where 0 stands.

    What is known holds those that were asked for already, with all that the GROUP makes of them.
    """
    if (box, row) not in known:
        least, signs = orbit(groups[box], row)
        for other, sign in signs.items():
            known[(box, other)] = ((box, least), sign)
    return known[(box, row)]


def _all_rows(limits):
    rows = [()]
    for limit in limits:
        rows = [row + (number,) for row in rows for number in range(limit)]
    return rows
