"""GEARS: SPACES, and BOXES with their SLOTS, their MOVES and the GROUPS of these."""

from slotsure.errors import BadGear, NoBox
from slotsure.words import is_name, is_row, is_whole, rises

_MOST_SPACES = 3
_MOST_BOXES = 8
_MOST_SLOTS = 4
_MOST_MOVES = 3
_SIDES = ("up", "down")


def need_gear(gear):
    """None of a GEAR, BadGear of any other thing."""
    if not is_row(gear, 2, 2):
        raise BadGear("a GEAR is a pair (SPACES, BOXES)")
    spaces, boxes = gear
    if not is_row(spaces, 1, _MOST_SPACES) or not all([is_name(space) for space in spaces]):
        raise BadGear("SPACES are a tuple of 1 to 3 NAMES")
    if not rises(spaces):
        raise BadGear("the NAMES of SPACES rise")
    if not is_row(boxes, 0, _MOST_BOXES):
        raise BadGear("BOXES are a tuple of 0 to 8 triples")
    for box in boxes:
        _need_box(spaces, box)
    if not rises([box[0] for box in boxes]):
        raise BadGear("the NAMES of BOXES rise")


def slots(gear, box):
    """The SLOTS of the BOX of this NAME."""
    return found_box(gear, box)[1]


def group(gear, box):
    """The GROUP of the BOX of this NAME: all MOVES that come of those that are told, rising."""
    _, kinds, moves = found_box(gear, box)
    return _made_group(len(kinds), moves)


def moved(row, order):
    """A row of things MOVED: at K stands what stood at ORDER[K]."""
    return tuple([row[at] for at in order])


def found_box(gear, box):
    """The triple (NAME, SLOTS, MOVES) of the BOX of this NAME; NoBox."""
    need_gear(gear)
    # What is no NAME may not bear being compared with one.
    if is_name(box):
        for found in gear[1]:
            if found[0] == box:
                return found
    raise NoBox(box)


def is_slot(spaces, thing):
    """True of a pair of one of these SPACES and a SIDE, False of any other thing."""
    if not is_row(thing, 2, 2):
        return False
    space, side = thing
    return is_name(space) and space in spaces and type(side) == str and side in _SIDES


def is_move(many, thing):
    """True of an ORDER of so many SLOTS with a SIGN, False of any other thing."""
    if not is_row(thing, 2, 2):
        return False
    order, sign = thing
    if not is_row(order, many, many) or not all([is_whole(at, 0, many - 1) for at in order]):
        return False
    return sorted(order) == list(range(many)) and is_whole(sign, -1, 1) and sign != 0


def slot_table(gear):
    """The SLOTS of each BOX of what is known to be a GEAR, by its NAME."""
    return {name: kinds for name, kinds, _ in gear[1]}


def group_table(gear, terms):
    """The GROUP of each BOX that stands in one of these TERMS, by its NAME."""
    used = {box: True for term in terms for box, _ in term}
    return {name: _made_group(len(kinds), moves) for name, kinds, moves in gear[1] if name in used}


def _need_box(spaces, box):
    if not is_row(box, 3, 3):
        raise BadGear("a BOX is a triple (NAME, SLOTS, MOVES)")
    name, kinds, moves = box
    if not is_name(name):
        raise BadGear("a BOX has a NAME")
    if not is_row(kinds, 0, _MOST_SLOTS) or not all([is_slot(spaces, kind) for kind in kinds]):
        raise BadGear("SLOTS are a tuple of 0 to 4 pairs (SPACE, SIDE)")
    if not is_row(moves, 0, _MOST_MOVES) or not all([is_move(len(kinds), move) for move in moves]):
        raise BadGear("MOVES are a tuple of 0 to 3 pairs (ORDER, SIGN)")
    if not all([moved(kinds, order) == kinds for order, _ in moves]):
        raise BadGear("a MOVE leaves each SLOT its SPACE and SIDE")


def _made_group(many, moves):
    first = (tuple(range(many)), 1)
    found = {first: True}
    waiting = [first]
    while waiting:
        order, sign = waiting.pop()
        for turn, factor in moves:
            made = (moved(order, turn), sign * factor)
            if made not in found:
                found[made] = True
                waiting.append(made)
    return tuple(sorted(found))
