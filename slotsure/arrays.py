"""SIZES, ARRAYS, and the WORTH of a SUM by these."""

from slotsure.errors import BadArrays, BadSizes, TooGreat
from slotsure.gears import moved, need_gear, slot_table
from slotsure.limits import GREATEST, LONG, WIDE
from slotsure.shares import is_share, quick_times
from slotsure.sums import need_sum
from slotsure.tables import add_at, bare_table, factor_table, joined_table, turned_rows
from slotsure.terms import seats
from slotsure.words import is_row, is_whole, rises


def need_sizes(gear, sizes):
    """None of SIZES of this GEAR, BadSizes of any other thing."""
    need_gear(gear)
    many = len(gear[0])
    if not is_row(sizes, many, many) or not all([is_whole(size, 1, GREATEST) for size in sizes]):
        raise BadSizes("SIZES are a tuple of whole numbers from 1 to 24, one for each SPACE")


def need_arrays(gear, sizes, arrays):
    """None of ARRAYS by these SIZES, BadArrays of any other thing."""
    need_sizes(gear, sizes)
    boxes = gear[1]
    if not is_row(arrays, len(boxes), len(boxes)):
        raise BadArrays("ARRAYS are a tuple with one thing for each BOX")
    for (_, kinds, moves), rows in zip(boxes, arrays):
        limits = limits_of(gear, sizes, kinds)
        if not is_row(rows, 0, LONG) or not all([is_entry(limits, pair) for pair in rows]):
            raise BadArrays("a BOX has a tuple of 0 to 400 pairs (ROW, FRACTION)")
        if not rises([row for row, _ in rows]):
            raise BadArrays("the ROWS of a BOX rise")
        _need_moves(moves, rows)


def worth(gear, sizes, arrays, given):
    """The WORTH of the SUM: a rising list of (ROW, FRACTION) without 0; TooGreat(WIDE)."""
    need_arrays(gear, sizes, arrays)
    need_sum(gear, given)
    rows = rows_by_box(gear, arrays)
    need_narrow(rows, given[1])
    return worth_by_rows(rows, given)


def limits_of(gear, sizes, kinds):
    """The SIZES of the SPACES of these pairs (SPACE, SIDE)."""
    size_of = dict(zip(gear[0], sizes))
    return [size_of[space] for space, _ in kinds]


def sizes_by_name(gear, sizes, term):
    """The SIZE of the SPACE of each NAME of what is known to be a TERM."""
    found = seats(slot_table(gear), term)
    names = list(found)
    return dict(zip(names, limits_of(gear, sizes, [found[name][0] for name in names])))


def is_place(limits, thing):
    """True of a tuple of numbers, each from 0 and below its limit, False of any other thing."""
    many = len(limits)
    return is_row(thing, many, many) and all([is_whole(at, 0, limit - 1) for at, limit in zip(thing, limits)])


def is_entry(limits, thing):
    """True of a pair (ROW, FRACTION), the FRACTION not 0, False of any other thing."""
    return is_row(thing, 2, 2) and is_place(limits, thing[0]) and is_share(thing[1]) and thing[1][0] != 0


def rows_by_box(gear, arrays):
    """The pairs (ROW, FRACTION) of each BOX, by its NAME."""
    return {box[0]: rows for box, rows in zip(gear[1], arrays)}


def need_narrow(rows, parts):
    """None of PARTS that these ROWS let be WIDE at most, TooGreat of any other."""
    if sum([_width(rows, term) for _, term in parts]) > WIDE:
        raise TooGreat(WIDE)


def worth_by_rows(rows, given):
    """The WORTH of what is known to be a SUM, not wider than WIDE by these ROWS."""
    free, parts = given
    names = [name for name, _, _ in free]
    found = {}
    for fraction, term in parts:
        # Where a BOX has no ROWS, the TABLES of the others may be wider than WIDE.
        if fraction[0] == 0 or _width(rows, term) == 0:
            continue
        for row, told in turned_rows(_term_table(rows, term), names):
            add_at(found, row, quick_times(fraction, told))
    return sorted([(row, told) for row, told in found.items() if told[0] != 0])


def _need_moves(moves, rows):
    # As many ROWS stand at the MOVED ones: where none of these is 0, no other has a number.
    standing = dict(rows)
    for order, sign in moves:
        for row, (above, beneath) in rows:
            if standing.get(moved(row, order)) != (sign * above, beneath):
                raise BadArrays("ARRAYS keep the MOVES")


def _width(rows, term):
    many = 1
    for box, _ in term:
        many = many * len(rows[box])
    return many


def _term_table(rows, term):
    table = bare_table()
    for box, names in term:
        table = joined_table(table, factor_table(rows[box], names))
    return table
