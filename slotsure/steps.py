"""STEPS: they lead a TERM and a SIGN on."""

from slotsure.errors import BadStep
from slotsure.gears import group_table, is_move, moved, need_gear, slot_table
from slotsure.names import exchanged, names_in
from slotsure.terms import seats
from slotsure.words import is_name, is_row, is_whole


def walk(gear, term, steps):
    """(SIGN, TERM) to which the STEPS lead; BadStep of the first that can't stand there."""
    need_gear(gear)
    seats(slot_table(gear), term)
    if type(steps) not in (list, tuple):
        raise BadStep(0)
    # STEPS never change which BOXES stand in the TERM.
    groups = group_table(gear, [term])
    sign = 1
    for number, step in enumerate(steps):
        made = led(groups, term, step)
        if made is None:
            raise BadStep(number)
        factor, term = made
        sign = sign * factor
    return sign, term


def led(groups, term, step):
    """(SIGN, TERM) to which this STEP leads a TERM, None where it can't stand, or is none."""
    if not is_row(step, 3, 4) or type(step[0]) != str:
        return None
    word, many = step[0], len(step)
    if word == "swap" and many == 3:
        return _swapped(term, step[1], step[2])
    if word == "move" and many == 4:
        return _turned(groups, term, step[1], step[2:])
    if word == "name" and many == 3:
        return _named(term, step[1], step[2])
    return None


def _swapped(term, one, other):
    if not is_whole(other, 0, len(term) - 1) or not is_whole(one, 0, other - 1):
        return None
    row = list(term)
    row[one], row[other] = row[other], row[one]
    return 1, tuple(row)


def _turned(groups, term, at, move):
    if not is_whole(at, 0, len(term) - 1):
        return None
    box, names = term[at]
    # Asked ahead of the GROUP, where True would be found as 1 is.
    if not is_move(len(names), move) or move not in groups[box]:
        return None
    order, sign = move
    row = list(term)
    row[at] = (box, moved(names, order))
    return sign, tuple(row)


def _named(term, old, new):
    standing = names_in(term)
    if not is_name(old) or standing.count(old) != 2:
        return None
    if not is_name(new) or new in standing:
        return None
    return 1, exchanged(term, {old: new})
