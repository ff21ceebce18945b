"""The texts of GEARS, SUMS, ARRAYS and STEPS."""

from slotsure.arrays import need_arrays
from slotsure.gears import need_gear
from slotsure.steps import walk
from slotsure.sums import need_sum


def gear_text(gear):
    """The text of a GEAR."""
    need_gear(gear)
    spaces, boxes = gear
    lines = [["spaces"] + list(spaces)]
    for name, kinds, moves in boxes:
        lines.append(["box", name] + [word for kind in kinds for word in kind])
        lines.extend([["move"] + _move_words(order, sign) for order, sign in moves])
    return _text(lines)


def sum_text(gear, given):
    """The text of a SUM."""
    need_sum(gear, given)
    free, parts = given
    lines = [["free"] + [word for row in free for word in row]]
    for fraction, term in parts:
        factors = [word for box, names in term for word in (box, *names)]
        lines.append(["part", _share_word(fraction)] + factors)
    return _text(lines)


def arrays_text(gear, sizes, arrays):
    """The text of ARRAYS with their SIZES."""
    need_arrays(gear, sizes, arrays)
    lines = [["sizes"] + _figures(sizes)]
    for (name, _, _), rows in zip(gear[1], arrays):
        lines.extend([["at", name] + _figures(row) + [_share_word(fraction)] for row, fraction in rows])
    return _text(lines)


def steps_text(gear, term, steps):
    """The text of STEPS that can stand one after another from the TERM on; BadStep."""
    walk(gear, term, steps)
    return _text([_step_words(step) for step in steps])


def _step_words(step):
    if step[0] == "swap":
        return ["swap"] + _figures(step[1:])
    if step[0] == "move":
        _, at, order, sign = step
        return ["move", str(at)] + _move_words(order, sign)
    return list(step)


def _move_words(order, sign):
    return _figures(order) + ["+" if sign == 1 else "-"]


def _share_word(fraction):
    return f"{fraction[0]}/{fraction[1]}"


def _figures(numbers):
    return [str(number) for number in numbers]


def _text(lines):
    return "\n".join([" ".join(words) for words in lines])
