"""What deeds make of the DEFINITIONS of a Shelf: dicts of pairs (NAMES, SUM) by BOXES, never changed."""

from slotsure.definitions import are_names, first_lacking, need_free, put_in_by
from slotsure.errors import BadDeed, BadName, NotDefined, NotSo, Ring
from slotsure.gears import found_box
from slotsure.sums import need_sum

_LENGTHS = {"define": 4, "undefine": 2}


def after_deed(gear, definitions, deed):
    """The DEFINITIONS after the deed; BadDeed, then as the deed is refused."""
    if type(deed) != tuple or not deed or type(deed[0]) != str or _LENGTHS.get(deed[0]) != len(deed):
        raise BadDeed("a deed is (\"define\", BOX, NAMES, SUM) or (\"undefine\", BOX)")
    if deed[0] == "undefine":
        return after_undefine(gear, definitions, deed[1])
    return after_define(gear, definitions, deed[1], deed[2], deed[3])


def after_define(gear, definitions, box, names, given):
    """The DEFINITIONS with this one; refuses as Shelf.define does."""
    kinds = found_box(gear, box)[1]
    if not are_names(kinds, names):
        raise BadName("NAMES are a tuple of unlike ones, one for each SLOT")
    need_sum(gear, given)
    need_free(kinds, names, given[0])
    after = {**definitions, box: (names, given)}
    reached = _reached(after, box)
    if box in reached:
        raise Ring(tuple(sorted([own for own in reached if box in _reached(after, own)])))
    _need_moves(gear, after, box)
    return after


def after_undefine(gear, definitions, box):
    """The DEFINITIONS without that of the BOX; refuses as Shelf.undefine does."""
    need_defined(gear, definitions, box)
    after = {own: told for own, told in definitions.items() if own != box}
    _need_moves(gear, after, box)
    return after


def need_defined(gear, definitions, box):
    """None of a BOX that is defined; NoBox, NotDefined."""
    found_box(gear, box)
    if box not in definitions:
        raise NotDefined(box)


def full_by(definitions, given):
    """The FULL SUM of what is known to be a SUM; TooGreat(LONG), TooGreat(MOST)."""
    while True:
        standing = _boxes_in(given)
        defined = [box for box in sorted(definitions) if box in standing]
        if not defined:
            return given
        given = put_in_by(defined[0], definitions[defined[0]], given)


def _boxes_in(given):
    return {box: True for _, term in given[1] for box, _ in term}


def _reached(definitions, box):
    """All BOXES to which this one comes."""
    found = {}
    waiting = [box]
    while waiting:
        own = waiting.pop()
        if own in definitions:
            news = [other for other in _boxes_in(definitions[own][1]) if other not in found]
            found.update({other: True for other in news})
            waiting.extend(news)
    return found


def _need_moves(gear, definitions, changed):
    """None where each defined BOX has its MOVES, the DEFINITION of one alone being another; TooGreat, NotSo."""
    for box in sorted(definitions):
        # What doesn't come to that one is as it was, and had its MOVES.
        if box == changed or changed in _reached(definitions, box):
            names, given = definitions[box]
            whole = full_by(definitions, given)
            number = first_lacking(gear, (names, whole), found_box(gear, box)[2])
            if number is not None:
                raise NotSo(box, number)
