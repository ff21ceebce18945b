"""TERMS: FACTORS, and the names that stand FREE or JOINED in their SLOTS."""

from slotsure.errors import BadTerm
from slotsure.gears import need_gear, slot_table
from slotsure.limits import MOST
from slotsure.words import is_name, is_row


def need_term(gear, term):
    """None of a TERM of this GEAR, BadTerm of any other thing."""
    need_gear(gear)
    seats(slot_table(gear), term)


def free(gear, term):
    """The FREE of the TERM's names: a rising tuple of triples (NAME, SPACE, SIDE)."""
    need_gear(gear)
    return free_in(seats(slot_table(gear), term))


def joined(gear, term):
    """A rising list of the TERM's JOINED names."""
    need_gear(gear)
    found = seats(slot_table(gear), term)
    return sorted([name for name, kinds in found.items() if len(kinds) == 2])


def seats(table, term):
    """The SLOTS in which each NAME of the TERM stands; BadTerm of what is no TERM.

    The table has the SLOTS of each BOX by its NAME.
    """
    if not is_row(term, 0, MOST):
        raise BadTerm("a TERM is a tuple of 0 to 6 FACTORS")
    found = {}
    for factor in term:
        _need_factor(table, factor)
        box, names = factor
        for name, kind in zip(names, table[box]):
            found.setdefault(name, []).append(kind)
    for kinds in found.values():
        if len(kinds) > 1 and not (len(kinds) == 2 and can_join(kinds[0], kinds[1])):
            raise BadTerm("a NAME that stands twice stands up and down, both of one SPACE")
    return found


def free_in(found):
    """The FREE of the names whose SLOTS are told."""
    return tuple(sorted([(name, *kinds[0]) for name, kinds in found.items() if len(kinds) == 1]))


def can_join(one, other):
    """Whether a NAME may stand in both SLOTS: of one SPACE, one up and one down."""
    return one[0] == other[0] and one[1] != other[1]


def _need_factor(table, factor):
    if not is_row(factor, 2, 2):
        raise BadTerm("a FACTOR is a pair (BOX, NAMES)")
    box, names = factor
    # What is no NAME may be no key, either.
    if not is_name(box) or box not in table:
        raise BadTerm("a FACTOR's BOX is one of the GEAR's")
    many = len(table[box])
    if not is_row(names, many, many) or not all([is_name(name) for name in names]):
        raise BadTerm("a FACTOR has a tuple of as many NAMES as its BOX has SLOTS")
