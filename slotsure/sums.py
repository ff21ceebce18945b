"""SUMS: FREE and PARTS, their PLAIN form, added, scaled and multiplied."""

from slotsure.errors import BadSum, BadTerm, TooGreat, Unfit
from slotsure.forms import form_by, need_light
from slotsure.gears import group_table, is_slot, need_gear, slot_table
from slotsure.limits import LONG, MOST
from slotsure.names import apart, names_in
from slotsure.shares import ZERO, is_share, need_share, quick_plus, quick_times
from slotsure.terms import can_join, free_in, seats
from slotsure.words import is_name, is_row, rises


def need_sum(gear, given):
    """None of a SUM of this GEAR, BadSum of any other thing."""
    need_gear(gear)
    if not is_row(given, 2, 2):
        raise BadSum("a SUM is a pair (FREE, PARTS)")
    free, parts = given
    if not _is_free(gear[0], free):
        raise BadSum("FREE is a tuple of triples (NAME, SPACE, SIDE) whose NAMES rise")
    if not is_row(parts, 0, LONG):
        raise BadSum("PARTS are a tuple of 0 to 400 pairs")
    table = slot_table(gear)
    for at, part in enumerate(parts):
        _need_part(table, free, at, part)


def plain(gear, given):
    """The SUM's PLAIN form; TooGreat(HEAVY)."""
    need_sum(gear, given)
    free, parts = given
    groups = group_table(gear, [term for _, term in parts])
    need_light_parts(groups, parts)
    return free, plain_parts(groups, parts)


def added(gear, one, other):
    """The two SUMS of the same FREE added; Unfit, TooGreat(LONG)."""
    need_sum(gear, one)
    need_sum(gear, other)
    need_same_free(one, other)
    if len(one[1]) + len(other[1]) > LONG:
        raise TooGreat(LONG)
    return one[0], one[1] + other[1]


def scaled(gear, given, by):
    """The SUM with each FRACTION multiplied by this one."""
    need_sum(gear, given)
    need_share(by)
    return given[0], scaled_parts(given[1], by)


def multiplied(gear, one, other):
    """The two SUMS multiplied, what is FREE in both JOINED; Unfit, TooGreat(LONG), TooGreat(MOST)."""
    need_sum(gear, one)
    need_sum(gear, other)
    met = _met(one[0], other[0])
    if len(one[1]) * len(other[1]) > LONG:
        raise TooGreat(LONG)
    if _most_factors(one) + _most_factors(other) > MOST:
        raise TooGreat(MOST)
    free = tuple(sorted([row for row in one[0] + other[0] if row[0] not in met]))
    parts = [
        (quick_times(fraction, factor), _beside(term, behind))
        for fraction, term in one[1]
        for factor, behind in other[1]
    ]
    return free, tuple(parts)


def need_light_parts(groups, parts):
    """None where each TERM is of a WEIGHT up to HEAVY, TooGreat otherwise."""
    for _, term in parts:
        need_light(groups, term)


def plain_parts(groups, parts):
    """The PARTS of the PLAIN form of these, of which the TERMS are known to be of a WEIGHT up to HEAVY."""
    forms = {}
    found = {}
    for fraction, term in parts:
        # TERMS may be alike, and a FORM is dear.
        if term not in forms:
            forms[term] = form_by(groups, term)
        sign, told = forms[term]
        if sign != 0:
            found[told] = quick_plus(found.get(told, ZERO), quick_times(fraction, (sign, 1)))
    return tuple([(found[told], told) for told in sorted(found) if found[told] != ZERO])


def scaled_parts(parts, by):
    """The PARTS with each FRACTION multiplied by this one."""
    return tuple([(quick_times(fraction, by), term) for fraction, term in parts])


def need_same_free(one, other):
    """None of two SUMS of the same FREE, Unfit of the NAMES that stand in one alone, or otherwise."""
    unlike = [row[0] for row in one[0] if row not in other[0]] + [row[0] for row in other[0] if row not in one[0]]
    if unlike:
        raise Unfit(tuple(sorted(set(unlike))))


def kinds_in(free):
    """The SPACE and SIDE of each name of FREE."""
    return {name: (space, side) for name, space, side in free}


def _is_free(spaces, thing):
    if type(thing) != tuple:
        return False
    for row in thing:
        if not is_row(row, 3, 3) or not is_name(row[0]) or not is_slot(spaces, row[1:]):
            return False
    return rises([row[0] for row in thing])


def _need_part(table, free, at, part):
    if not is_row(part, 2, 2) or not is_share(part[0]):
        raise BadSum(f"PART {at} is no pair (FRACTION, TERM)")
    try:
        found = seats(table, part[1])
    except BadTerm as refusal:
        raise BadSum(f"PART {at}: {refusal.why}") from None
    if free_in(found) != free:
        raise BadSum(f"the FREE names of PART {at} are not just those of FREE")


def _met(free, behind):
    """The NAMES that are FREE in both; Unfit of those that can't be JOINED."""
    kinds = kinds_in(behind)
    met = [row for row in free if row[0] in kinds]
    others = [row[0] for row in met if not can_join(row[1:], kinds[row[0]])]
    if others:
        raise Unfit(tuple(others))
    return [row[0] for row in met]


def _most_factors(given):
    return max([len(term) for _, term in given[1]], default=0)


def _beside(term, behind):
    """The FACTORS of both TERMS in one, the JOINED names of either exchanged where they would meet others."""
    ahead = apart(term, names_in(behind))
    return ahead + apart(behind, names_in(ahead))
