"""The reading of texts, line by line.

What the words of a line tell is made up as they stand, with None for what tells
nothing, and then looked at as what is handed in elsewhere is.
"""

from slotsure.arrays import is_entry, limits_of, need_arrays, need_sizes
from slotsure.errors import BadArrays, BadGear, BadLine, BadSizes, BadSum
from slotsure.gears import group_table, need_gear, slot_table
from slotsure.limits import LONG
from slotsure.steps import led
from slotsure.sums import need_sum
from slotsure.terms import need_term

_FIGURES = "0123456789"
_SIGNS = {"+": 1, "-": -1}
# Python itself makes no number of more than some 4,300 figures.
_MOST_FIGURES = 4000


def gear_in(text):
    """The GEAR of which this is the text; BadLine."""
    lines = _lines(text)
    spaces = _behind("spaces", lines[0])
    boxes = []
    _need_gear_line(spaces, boxes, 1)
    for number, words in enumerate(lines[1:], 2):
        if words[:1] == ["move"] and boxes:
            name, kinds, moves = boxes.pop()
            boxes.append((name, kinds, moves + (_move(words[1:]),)))
        else:
            boxes.append(_box(words))
        _need_gear_line(spaces, boxes, number)
    return spaces, tuple(boxes)


def sum_in(gear, text):
    """The SUM of which this is the text; BadLine."""
    need_gear(gear)
    lines = _lines(text)
    free = _rows_of(3, _behind("free", lines[0]))
    _need_sum_line(gear, (free, ()), 1)
    table = slot_table(gear)
    parts = []
    for number, words in enumerate(lines[1:], 2):
        parts.append(_part(table, words))
        _need_sum_line(gear, (free, (parts[-1],)), number)
        if len(parts) > LONG:
            raise BadLine(number)
    return free, tuple(parts)


def arrays_in(gear, text):
    """(SIZES, ARRAYS) of which this is the text; BadLine."""
    need_gear(gear)
    lines = _lines(text)
    sizes = _numbers(_behind("sizes", lines[0]))
    try:
        need_sizes(gear, sizes)
    except BadSizes:
        raise BadLine(1) from None
    limits = {name: limits_of(gear, sizes, kinds) for name, kinds, _ in gear[1]}
    rows = {name: [] for name in limits}
    # As the NAMES of BOXES rise, what comes line by line rises by BOXES and ROWS.
    last = ("", ())
    for number, words in enumerate(lines[1:], 2):
        box, entry = _entry(words)
        if box not in limits or not is_entry(limits[box], entry) or (box, entry[0]) <= last or len(rows[box]) == LONG:
            raise BadLine(number)
        last = (box, entry[0])
        rows[box].append(entry)
    arrays = tuple([tuple(rows[name]) for name in rows])
    try:
        need_arrays(gear, sizes, arrays)
    except BadArrays:
        raise BadLine(len(lines) + 1) from None
    return sizes, arrays


def steps_in(gear, term, text):
    """The STEPS of which this is the text, as they can stand from the TERM on; BadLine."""
    need_term(gear, term)
    lines = _lines(text)
    if text == "":
        return ()
    groups = group_table(gear, [term])
    steps = []
    for number, words in enumerate(lines, 1):
        steps.append(_step(words))
        made = led(groups, term, steps[-1])
        if made is None:
            raise BadLine(number)
        term = made[1]
    return tuple(steps)


def _lines(text):
    """The words of each line, none of a line with a blank too many or of an empty one."""
    if type(text) != str:
        raise BadLine(0)
    lines = [line.split(" ") for line in text.split("\n")]
    return [[] if "" in words else words for words in lines]


def _need_gear_line(spaces, boxes, number):
    try:
        need_gear((spaces, tuple(boxes)))
    except BadGear:
        raise BadLine(number) from None


def _need_sum_line(gear, given, number):
    try:
        need_sum(gear, given)
    except BadSum:
        raise BadLine(number) from None


def _behind(word, words):
    """The words behind this one, with which the line begins."""
    return tuple(words[1:]) if words[:1] == [word] else None


def _rows_of(many, words):
    """The words in rows of so many, the last one perhaps too short."""
    return None if words is None else tuple([words[at:at + many] for at in range(0, len(words), many)])


def _numbers(words):
    return None if words is None else tuple([_number(word) for word in words])


def _number(word):
    """The number of which these are the figures."""
    if not 1 <= len(word) <= _MOST_FIGURES or not all([sign in _FIGURES for sign in word]):
        return None
    return None if word[0] == "0" and word != "0" else int(word)


def _share(word):
    """The pair of numbers of which this is the text; they need not be in lowest terms."""
    above, _, beneath = word.partition("/")
    if above[:1] != "-":
        return _number(above), _number(beneath)
    number = _number(above[1:])
    return None if number is None or number == 0 else (-number, _number(beneath))


def _move(words):
    """ORDER and SIGN."""
    return (_numbers(words[:-1]), _SIGNS.get(words[-1])) if words else None


def _box(words):
    told = _behind("box", words)
    return (told[0], _rows_of(2, told[1:]), ()) if told else None


def _part(table, words):
    told = _behind("part", words)
    if not told:
        return None
    term = []
    at = 1
    while at < len(told):
        # What no BOX is called takes the word alone, and is refused with the TERM.
        end = at + 1 + len(table.get(told[at], ()))
        term.append((told[at], told[at + 1:end]))
        at = end
    return _share(told[0]), tuple(term)


def _entry(words):
    """A BOX and a pair (ROW, FRACTION)."""
    told = _behind("at", words)
    if not told:
        return None, None
    return told[0], (_numbers(told[1:-1]), _share(told[-1]))


def _step(words):
    if words[:1] == ["swap"]:
        return ("swap",) + _numbers(words[1:])
    if words[:1] == ["move"] and len(words) > 2:
        return ("move", _number(words[1])) + _move(words[2:])
    return tuple(words) if words[:1] == ["name"] else None
