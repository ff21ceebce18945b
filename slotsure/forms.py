"""FORMS: of each TERM that isn't NOUGHT one of its TELLINGS, the same for all of these.

A FORM has its FACTORS by their BOXES, and of all TERMS that come of ordering
those of one BOX, of MOVING their names and of calling the JOINED names, as
they come, by the first NAMES that aren't FREE, it is the least one.
"""

from slotsure.errors import TooGreat
from slotsure.gears import group_table, moved, need_gear, slot_table
from slotsure.limits import HEAVY
from slotsure.names import fresh, joined_in, names_in
from slotsure.terms import seats


def weight(gear, term):
    """The WEIGHT of the TERM."""
    need_gear(gear)
    seats(slot_table(gear), term)
    return _weight_by(group_table(gear, [term]), term)


def form(gear, term):
    """(SIGN, FORM) of the TERM, (0, None) of one that is NOUGHT; TooGreat(HEAVY)."""
    return form_by(_light_groups(gear, term), term)


def form_steps(gear, term):
    """STEPS that lead the TERM to (SIGN, FORM), one that is NOUGHT to itself with -1; TooGreat(HEAVY)."""
    return form_steps_by(_light_groups(gear, term), term)


def need_light(groups, term):
    """None of a TERM of a WEIGHT up to HEAVY, TooGreat of any other."""
    if _weight_by(groups, term) > HEAVY:
        raise TooGreat(HEAVY)


def form_by(groups, term):
    """(SIGN, FORM) of what is known to be a TERM of a WEIGHT up to HEAVY."""
    told, ways = _least(groups, term)
    if len(ways) == 2:
        return 0, None
    return (1 if 1 in ways else -1), told


def form_steps_by(groups, term):
    """The STEPS of form_steps, of what is known to be a TERM of a WEIGHT up to HEAVY."""
    told, ways = _least(groups, term)
    if len(ways) == 2:
        return _steps_by(term, _there_and_back(ways[1], ways[-1]), term)
    return _steps_by(term, ways[1 if 1 in ways else -1], told)


def _light_groups(gear, term):
    need_gear(gear)
    seats(slot_table(gear), term)
    groups = group_table(gear, [term])
    need_light(groups, term)
    return groups


def _weight_by(groups, term):
    counts = {}
    found = 1
    for box, _ in term:
        counts[box] = counts.get(box, 0) + 1
        found = found * counts[box] * len(groups[box])
    return found


def _least(groups, term):
    """The least TERM to which STEPS lead, and for each SIGN with which they do so one WAY there.

    A WAY has for each FACTOR of that TERM a triple: which FACTOR of the first
    one it was, and the ORDER and the SIGN of the MOVE that its names made.

    It is found FACTOR by FACTOR. What comes behind depends on two things alone,
    which FACTORS are placed and what the labels stand for: so of the WAYS that
    are least up to there only one for each of these and each SIGN goes on.
    """
    joints = joined_in(term)
    labels = fresh([name for name in names_in(term) if name not in joints], len(joints))
    told = []
    ends = {((), ()): {1: ()}}
    for box in sorted([own for own, _ in term]):
        turns = [
            (at, moved(names, order), order, sign)
            for at, (own, names) in enumerate(term) if own == box
            for order, sign in groups[box]
        ]
        least, ends = _next_least(ends, turns, joints, labels)
        told.append((box, least))
    # One end is left: all FACTORS are placed, and no label stands for a name.
    return tuple(told), list(ends.values())[0]


def _next_least(ends, turns, joints, labels):
    """The least NAMES that one more FACTOR can have, and the WAYS that end so."""
    least = None
    grown = {}
    for (placed, open_names), by_sign in ends.items():
        for at, row, order, sign in turns:
            if at in placed:
                continue
            names, left_open = _labelled(row, open_names, joints, labels)
            if least is None or names < least:
                least = names
                grown = {}
            if names == least:
                held = grown.setdefault((tuple(sorted([*placed, at])), left_open), {})
                for before, way in by_sign.items():
                    held.setdefault(before * sign, way + ((at, order, sign),))
    return least, grown


def _labelled(row, open_names, joints, labels):
    """The row with labels for JOINED names, and what the labels stand for then.

    Each label stands for a JOINED name, or for "" once both SLOTS of it are
    met: which name it was makes no difference to what comes behind.
    """
    told = []
    for name in row:
        if name not in joints:
            told.append(name)
            continue
        if name in open_names:
            at = open_names.index(name)
            open_names = open_names[:at] + ("",) + open_names[at + 1:]
        else:
            at = len(open_names)
            open_names = open_names + (name,)
        told.append(labels[at])
    return tuple(told), open_names


def _there_and_back(way, other):
    """The WAY by which a TERM goes on one WAY, and back on another to the same TERM."""
    back = {}
    for (at, order, sign), (home, turn, factor) in zip(way, other):
        undone = tuple([turn.index(place) for place in range(len(turn))])
        back[home] = (at, moved(order, undone), sign * factor)
    return tuple([back[home] for home in range(len(back))])


def _steps_by(term, way, goal):
    """The STEPS of a WAY from the TERM to the goal: MOVES, then names, then swaps."""
    steps = []
    changes = {}
    for (at, order, sign), (_, wanted) in zip(way, goal):
        if sign == -1 or order != tuple(range(len(order))):
            steps.append(("move", at, order, sign))
        for name, new in zip(moved(term[at][1], order), wanted):
            changes[name] = new
    return tuple(steps + _name_steps(changes) + _swap_steps([at for at, _, _ in way]))


def _name_steps(changes):
    """STEPS by which each NAME that stands in a TERM becomes another one, or stays."""
    steps = []
    standing = dict(changes)
    while True:
        waiting = [name for name in standing if standing[name] != name]
        if not waiting:
            return steps
        ready = [name for name in waiting if standing[name] not in standing]
        if ready:
            old = ready[0]
            new = standing[old]
        else:
            # Each waits for the seat of another one: one of them makes room.
            old = waiting[0]
            new = fresh(standing, 1)[0]
        steps.append(("name", old, new))
        standing[new] = standing.pop(old)


def _swap_steps(places):
    """STEPS by which at each place stands the FACTOR that stood at places[place]."""
    steps = []
    row = list(range(len(places)))
    for at, wanted in enumerate(places):
        now = row.index(wanted)
        if now != at:
            steps.append(("swap", at, now))
            row[at], row[now] = row[now], row[at]
    return steps
