"""DEFINITIONS: a BOX put as a SUM of others, PUT IN other SUMS, and the MOVES that it has."""

from slotsure.errors import BadDefinition, BadNumber, BadSum, TooGreat
from slotsure.gears import found_box, group_table, moved
from slotsure.limits import LONG, MOST
from slotsure.names import apart, exchanged, names_in
from slotsure.shares import quick_times
from slotsure.sums import need_light_parts, need_sum, plain_parts, scaled_parts
from slotsure.words import is_name, is_row, is_whole


def put_in(gear, box, definition, given):
    """The SUM with the DEFINITION in the place of the BOX, once at each place; TooGreat(LONG), TooGreat(MOST)."""
    _need_definition(found_box(gear, box), gear, definition)
    need_sum(gear, given)
    return put_in_by(box, definition, given)


def has_move(gear, box, definition, number):
    """True if the SUM of the DEFINITION has the BOX's MOVE of this number, as it stands; TooGreat(HEAVY)."""
    found = found_box(gear, box)
    _need_definition(found, gear, definition)
    moves = found[2]
    if not is_whole(number, 0, len(moves) - 1):
        raise BadNumber("it is the number of none of the BOX's MOVES")
    return first_lacking(gear, definition, [moves[number]]) is None


def put_in_by(box, definition, given):
    """What put_in tells of a DEFINITION and a SUM that are known to be such."""
    free, parts = given
    behind = definition[1][1]
    if sum([_many_parts(box, behind, term) for _, term in parts]) > LONG:
        raise TooGreat(LONG)
    if max([_most_factors(box, behind, term) for _, term in parts], default=0) > MOST:
        raise TooGreat(MOST)
    return free, tuple([made for part in parts for made in _made_parts(box, definition, part)])


def first_lacking(gear, definition, moves):
    """The number of the first of these MOVES that the DEFINITION's SUM hasn't, or None; TooGreat(HEAVY)."""
    names, (_, parts) = definition
    groups = group_table(gear, [term for _, term in parts])
    for number, (order, sign) in enumerate(moves):
        need_light_parts(groups, parts)
        changes = dict(zip(names, moved(names, order)))
        turned = [(fraction, exchanged(term, changes)) for fraction, term in parts]
        if plain_parts(groups, turned) != plain_parts(groups, scaled_parts(parts, (sign, 1))):
            return number
    return None


def are_names(kinds, thing):
    """True of a tuple of as many unlike NAMES as there are SLOTS, False of any other thing."""
    if not is_row(thing, len(kinds), len(kinds)) or not all([is_name(name) for name in thing]):
        return False
    return len(set(thing)) == len(thing)


def need_free(kinds, names, free):
    """None where just these NAMES are FREE, each as its SLOT is, BadDefinition otherwise."""
    if free != tuple(sorted([(name, *kind) for name, kind in zip(names, kinds)])):
        raise BadDefinition("the NAMES are just the FREE ones, each of its SLOT's SPACE and SIDE")


def _need_definition(found, gear, thing):
    """None of a DEFINITION of the BOX that was found, BadDefinition of any other thing."""
    if not is_row(thing, 2, 2):
        raise BadDefinition("a DEFINITION is a pair (NAMES, SUM)")
    names, given = thing
    kinds = found[1]
    if not are_names(kinds, names):
        raise BadDefinition("NAMES are a tuple of unlike ones, one for each SLOT")
    try:
        need_sum(gear, given)
    except BadSum as refusal:
        raise BadDefinition(refusal.why) from None
    need_free(kinds, names, given[0])


def _places(box, term):
    return len([own for own, _ in term if own == box])


def _many_parts(box, behind, term):
    """How many PARTS come of a PART with this TERM."""
    many = 1
    for _ in range(_places(box, term)):
        many = many * len(behind)
    return many


def _most_factors(box, behind, term):
    """How many FACTORS the greatest TERM has that comes of this one."""
    many = _places(box, term)
    return len(term) - many + many * max([len(own) for _, own in behind], default=0)


def _made_parts(box, definition, part):
    """The PARTS that come of this one: by each place in turn, by each PART of the DEFINITION."""
    names, (_, behind) = definition
    fraction, term = part
    made = [(fraction, (), names_in(term))]
    for factor in term:
        if factor[0] != box:
            made = [(told, row + (factor,), taken) for told, row, taken in made]
        else:
            changes = dict(zip(names, factor[1]))
            made = [_grown(so_far, changes, other) for so_far in made for other in behind]
    return [(told, row) for told, row, _ in made]


def _grown(so_far, changes, part):
    """What has come so far, with the FACTORS of this PART of the DEFINITION behind it."""
    told, row, taken = so_far
    fraction, term = part
    # What is JOINED makes way ahead: a FACTOR's name could not be told from it afterwards.
    placed = exchanged(apart(term, taken), changes)
    return quick_times(told, fraction), row + placed, taken + names_in(placed)
