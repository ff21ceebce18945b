"""What several tests use: GEARS, wrong things, TERMS and SUMS made at random from a
seed, and what is asked worked out straight from the words of the document."""

import copy
import itertools
from fractions import Fraction

from slotsure.arrays import need_arrays, worth

UP = ("v", "up")
DOWN = ("v", "down")
OUT = ("w", "up")
IN = ("w", "down")

# One, two, three and four SLOTS, one SPACE and two, even, odd and round ones, one
# that is NOUGHT, one without MOVES, one without SLOTS.
GEAR = (
    ("v", "w"),
    (
        ("e", (UP, UP), (((1, 0), 1),)),
        ("f", (DOWN, DOWN), (((1, 0), -1),)),
        ("m", (UP, DOWN), ()),
        ("n", (UP, IN), (((0, 1), -1),)),
        ("q", (UP, UP, DOWN, DOWN), (((1, 0, 2, 3), -1), ((0, 1, 3, 2), -1), ((1, 0, 3, 2), 1))),
        ("r", (OUT, OUT, OUT), (((1, 2, 0), 1),)),
        ("s", (), ()),
        ("t", (DOWN, IN), ()),
    ),
)

# Here TERMS of any FREE come of a few FACTORS.
SUM_GEAR = (
    ("v", "w"),
    (
        ("e", (UP, UP), (((1, 0), 1),)),
        ("f", (DOWN, DOWN), (((1, 0), -1),)),
        ("g", (UP,), ()),
        ("h", (DOWN,), ()),
        ("m", (UP, DOWN), ()),
        ("o", (OUT,), ()),
        ("q", (UP, UP, DOWN, DOWN), (((1, 0, 2, 3), -1), ((0, 1, 3, 2), -1), ((1, 0, 3, 2), 1))),
        ("t", (DOWN, IN), ()),
    ),
)

# All that is greatest, or least, at once.
BIG_GEAR = (
    ("abcdefgh", "v", "z"),
    tuple(
        (name, ((("v", "up"),) * 4), (((1, 0, 2, 3), 1), ((1, 2, 3, 0), 1), ((1, 0, 2, 3), 1)))
        for name in ("a", "abcdefgh", "b", "c", "d", "e", "v", "zzzzzzzz")
    ),
)
SMALL_GEAR = (("a",), ())
BARE_GEAR = (("a",), (("a", (), ()), ("b", (), (((), 1),)), ("c", (), (((), -1), ((), 1), ((), -1)))))


class Sour:
    """Bears nothing that may be asked of it."""

    def fail(self, *told):
        raise RuntimeError("asked")

    __eq__ = __ne__ = __lt__ = __le__ = __gt__ = __ge__ = __hash__ = fail
    __len__ = __iter__ = __getitem__ = __contains__ = __bool__ = fail
    __int__ = __index__ = __str__ = __repr__ = __add__ = __mul__ = fail


class LooksTuple:
    """Says that it is a tuple, and is none."""

    @property
    def __class__(self):
        return tuple


class LooksText:
    """Says that it is a text, and is none."""

    @property
    def __class__(self):
        return str


class LooksWhole:
    """Says that it is an int, and is none."""

    @property
    def __class__(self):
        return int


# None of these is what is wanted anywhere.
NOTHINGS = (
    None, True, False, 0.5, 1.0, -1.0, float("nan"), float("inf"), 1j, "", "Ab", "a b", "up ", "aaaaaaaaa", "\u00e9",
    b"a", bytearray(b"a"), [], ["a"], [1], [[]], {}, {"a": 1}, {"a"}, frozenset(), object(), int, str, tuple, len,
    lambda: 1, Ellipsis, NotImplemented, range(2), ValueError("a"), Sour(), LooksTuple(), LooksText(), LooksWhole(),
)


def places(thing, ahead=()):
    """The way to the thing, and to each thing in it."""
    yield ahead
    if isinstance(thing, tuple):
        for at, inner in enumerate(thing):
            yield from places(inner, (*ahead, at))


def at_place(thing, way):
    for at in way:
        thing = thing[at]
    return thing


def put(thing, way, other):
    """The thing with another one at that place."""
    if not way:
        return other
    row = list(thing)
    row[way[0]] = put(row[way[0]], way[1:], other)
    return tuple(row)


def spoiled(thing):
    """The thing with each of NOTHINGS at each place in it; with each tuple a list, and with None behind."""
    for way in places(thing):
        for other in NOTHINGS:
            yield put(thing, way, other)
        inner = at_place(thing, way)
        if isinstance(inner, tuple):
            yield put(thing, way, list(inner))
            yield put(thing, way, (*inner, None))


def shortened(thing, ways):
    """The thing with one less in the tuple at each of these places."""
    for way in ways:
        row = at_place(thing, way)
        for at in range(len(row)):
            yield put(thing, way, row[:at] + row[at + 1:])


def need_refused(test, kind, call, *things, field=None):
    """Needs call(*things) to be refused by this very kind, and what is handed in to stay."""
    with test.assertRaises(kind) as held:
        call(*things)
    test.assertIs(type(held.exception), kind)
    if field is not None:
        name, value = field
        test.assertEqual(getattr(held.exception, name), value)
        test.assertIs(type(getattr(held.exception, name)), type(value))
    return held.exception


def need_same_by_name(test, call, names, things):
    """Needs the same by place, by names, by names turned about, and asked again; what is handed in stays."""
    before = copy.deepcopy(things)
    told = call(*things)
    named = dict(zip(names, things))
    test.assertEqual(call(**named), told)
    test.assertEqual(call(**{name: named[name] for name in reversed(names)}), told)
    test.assertEqual(call(things[0], **{name: named[name] for name in names[1:]}), told)
    test.assertEqual(call(*things), told)
    test.assertEqual(things, before)
    return told


def kinds_of(gear, box):
    for name, kinds, _ in gear[1]:
        if name == box:
            return kinds
    raise KeyError(box)


def brute_moved(row, order):
    return tuple(row[at] for at in order)


def brute_group(gear, box):
    """All MOVES that come, by going on until none is new."""
    for name, kinds, moves in gear[1]:
        if name == box:
            found = {(tuple(range(len(kinds))), 1)}
            while True:
                more = {(brute_moved(a, b), s * t) for a, s in found for b, t in moves} | found
                if more == found:
                    return tuple(sorted(found))
                found = more
    raise KeyError(box)


def names_of(term):
    return [name for _, names in term for name in names]


def joined_of(term):
    names = names_of(term)
    return sorted({name for name in names if names.count(name) == 2})


def free_of(gear, term):
    names = names_of(term)
    rows = []
    for box, row in term:
        for name, (space, side) in zip(row, kinds_of(gear, box)):
            if names.count(name) == 1:
                rows.append((name, space, side))
    return tuple(sorted(rows))


def normal(term):
    """The TERM with its JOINED names called by numbers as they come: the same for all ways to call them."""
    calls = {}
    for name in names_of(term):
        if names_of(term).count(name) == 2:
            calls.setdefault(name, len(calls))
    return tuple((box, tuple(calls.get(name, name) for name in names)) for box, names in term)


def tellings(gear, term):
    """Each (SIGN, TELLING), the JOINED names called by numbers."""
    groups = {box: brute_group(gear, box) for box, _ in term}
    found = set()
    for row in itertools.permutations(term):
        for moves in itertools.product(*[groups[box] for box, _ in row]):
            sign = 1
            made = []
            for (box, names), (order, factor) in zip(row, moves):
                sign *= factor
                made.append((box, brute_moved(names, order)))
            found.add((sign, normal(tuple(made))))
    return found


def is_nought(gear, term):
    return (-1, normal(term)) in tellings(gear, term)


def brute_weight(gear, term):
    counts = {}
    weight = 1
    for box, _ in term:
        counts[box] = counts.get(box, 0) + 1
        weight *= counts[box] * len(brute_group(gear, box))
    return weight


POOL = ("a", "b", "c", "d", "e", "f", "g", "h", "i", "aa", "v", "w", "x", "long", "abcdefgh", "zzzzzzzz", "z", "y")


def a_term(rnd, gear, most, free=None):
    """A TERM made at random; where FREE is told, with just these FREE names, or None where it didn't come so."""
    boxes = [name for name, _, _ in gear[1]]
    row = [rnd.choice(boxes) for _ in range(rnd.randint(0, most))]
    seats = [(k, at, kind) for k, box in enumerate(row) for at, kind in enumerate(kinds_of(gear, box))]
    rnd.shuffle(seats)
    calls = {}
    if free is None:
        left = seats
        pool = list(POOL)
    else:
        left = []
        wanted = list(free)
        for k, at, kind in seats:
            fit = [row for row in wanted if row[1:] == kind]
            if fit:
                wanted.remove(fit[0])
                calls[k, at] = fit[0][0]
            else:
                left.append((k, at, kind))
        if wanted:
            return None
        pool = [name for name in POOL if name not in [row[0] for row in free]]
    rnd.shuffle(pool)
    pool.extend("p" + one + other for one in "abcdef" for other in "abcdef")
    while left:
        k, at, kind = left.pop(0)
        name = pool.pop(0)
        calls[k, at] = name
        partners = [seat for seat in left if seat[2][0] == kind[0] and seat[2][1] != kind[1]]
        if partners and (free is not None or rnd.random() < 0.8):
            left.remove(partners[0])
            calls[partners[0][0], partners[0][1]] = name
        elif free is not None:
            return None
    return tuple(
        (box, tuple(calls[k, at] for at in range(len(kinds_of(gear, box))))) for k, box in enumerate(row)
    )


def terms(rnd, gear, most, many):
    return [a_term(rnd, gear, most) for _ in range(many)]


def some_step(rnd, gear, term):
    """A STEP that can stand there, and where it leads, or None where the sort drawn has none."""
    word = rnd.choice(["swap", "move", "name"])
    row = list(term)
    if word == "swap" and len(term) > 1:
        one, other = sorted(rnd.sample(range(len(term)), 2))
        row[one], row[other] = row[other], row[one]
        return ("swap", one, other), 1, tuple(row)
    if word == "move" and term:
        at = rnd.randrange(len(term))
        order, sign = rnd.choice(brute_group(gear, term[at][0]))
        row[at] = (term[at][0], brute_moved(term[at][1], order))
        return ("move", at, order, sign), sign, tuple(row)
    if word == "name" and joined_of(term):
        old = rnd.choice(joined_of(term))
        new = rnd.choice([name for name in (*POOL, "qq", "qr") if name not in names_of(term)])
        row = [(box, tuple(new if name == old else name for name in names)) for box, names in term]
        return ("name", old, new), 1, tuple(row)
    return None


def a_sum(rnd, gear, free, most, many):
    """A SUM of this FREE, of so many PARTS."""
    parts = []
    for _ in range(100000):
        if len(parts) == many:
            return free, tuple(parts)
        term = a_term(rnd, gear, most, free)
        if term is not None:
            share = Fraction(rnd.randint(-6, 6), rnd.randint(1, 5))
            parts.append(((share.numerator, share.denominator), term))
    raise ValueError("no such TERMS come")


def some_arrays(rnd, gear, sizes):
    """Numbers at all ROWS of all BOXES, that keep the MOVES."""
    told = {}
    for box, kinds, _ in gear[1]:
        rows = list(itertools.product(*[range(sizes[space]) for space, _ in kinds]))
        loose = {row: rnd.randint(-3, 3) for row in rows}
        group = brute_group(gear, box)
        told[box] = {row: sum(sign * loose[brute_moved(row, order)] for order, sign in group) for row in rows}
    return told


def brute_worth(gear, sizes, arrays, given):
    """The WORTH by these numbers, as a dict without 0."""
    free, parts = given
    told = {}
    for (a, b), term in parts:
        spaces = {}
        for box, row in term:
            for name, (space, _) in zip(row, kinds_of(gear, box)):
                spaces[name] = space
        names = sorted(spaces)
        for numbers in itertools.product(*[range(sizes[spaces[name]]) for name in names]):
            at = dict(zip(names, numbers))
            found = Fraction(a, b)
            for box, row in term:
                found *= arrays[box][tuple(at[name] for name in row)]
                if found == 0:
                    break
            place = tuple(at[name] for name, _, _ in free)
            told[place] = told.get(place, 0) + found
    return {row: found for row, found in told.items() if found != 0}


def told_arrays(gear, arrays):
    """ARRAYS of the numbers at all ROWS of all BOXES."""
    told = []
    for box, _, _ in gear[1]:
        rows = []
        for row, number in sorted(arrays[box].items()):
            number = Fraction(number)
            if number != 0:
                rows.append((row, (number.numerator, number.denominator)))
        told.append(tuple(rows))
    return tuple(told)


def numbers_in(gear, arrays):
    """For each BOX a dict of what ARRAYS tell, 0 at all other ROWS."""
    class Entries(dict):
        def __missing__(self, row):
            return Fraction(0)

    told = {}
    for (box, _, _), rows in zip(gear[1], arrays):
        told[box] = Entries({row: Fraction(*fraction) for row, fraction in rows})
    return told


def plain_worth(gear, sizes, arrays, given):
    """The WORTH by ARRAYS, as it is told, summed up plainly."""
    found = brute_worth(gear, dict(zip(gear[0], sizes)), numbers_in(gear, arrays), given)
    return [(row, (number.numerator, number.denominator)) for row, number in sorted(found.items())]


def few_arrays(rnd, gear, sizes, many):
    """ARRAYS that keep the MOVES, of few ROWS, with FRACTIONS of all kinds."""
    told = []
    for box, kinds, _ in gear[1]:
        group = brute_group(gear, box)
        limits = [dict(zip(gear[0], sizes))[space] for space, _ in kinds]
        rows = {}
        for _ in range(many):
            row = tuple(rnd.randrange(limit) for limit in limits)
            number = Fraction(rnd.randint(-7, 7), rnd.randint(1, 5))
            for order, sign in group:
                # Both signs at one ROW leave 0 there.
                place = brute_moved(row, order)
                rows[place] = rows.get(place, 0) + sign * number
        told.append(tuple(
            (row, (number.numerator, number.denominator)) for row, number in sorted(rows.items()) if number != 0
        ))
    return tuple(told)


def some_telling(rnd, gear, term, many=6):
    """A TELLING of the TERM with its SIGN, some STEPS away."""
    sign = 1
    for _ in range(many):
        made = some_step(rnd, gear, term)
        if made is not None:
            sign *= made[1]
            term = made[2]
    return sign, term


def told_otherwise(rnd, gear, given):
    """A SUM that is ALIKE: TERMS told otherwise, PARTS in two, in another order, with some of 0 among them."""
    free, parts = given
    made = []
    for share, term in parts:
        share = Fraction(*share)
        cut = Fraction(rnd.randint(-3, 3), rnd.randint(1, 4)) if rnd.random() < 0.5 else share
        for piece in (cut, share - cut):
            if piece != 0 or rnd.random() < 0.3:
                sign, other = some_telling(rnd, gear, term)
                made.append(((piece * sign).as_integer_ratio(), other))
    rnd.shuffle(made)
    return free, tuple(made)


def own_walk(gear, term, steps):
    """(SIGN, TERM) to which STEPS lead, straight from the words of 4; None where one can't stand."""
    sign = 1
    for step in steps:
        if not isinstance(step, tuple) or not step:
            return None
        row = list(term)
        whole = [type(at) is int and 0 <= at < len(term) for at in step[1:3]]
        if step[0] == "swap" and len(step) == 3 and all(whole) and step[1] < step[2]:
            one, other = step[1:]
            row[one], row[other] = row[other], row[one]
        elif step[0] == "move" and len(step) == 4 and whole[0]:
            at, order, factor = step[1:]
            if not any((order, factor) == move and type(factor) is int for move in brute_group(gear, term[at][0])):
                return None
            row[at] = (term[at][0], brute_moved(term[at][1], order))
            sign *= factor
        elif step[0] == "name" and len(step) == 3:
            old, new = step[1:]
            good = isinstance(new, str) and 1 <= len(new) <= 8 and set(new) <= set("abcdefghijklmnopqrstuvwxyz")
            if names_of(term).count(old) != 2 or not good or new in names_of(term):
                return None
            row = [(box, tuple(new if name == old else name for name in names)) for box, names in term]
        else:
            return None
        term = tuple(row)
    return sign, term


def need_paper(test, gear, one, other, paper):
    """Needs it to be a PAPER that the two SUMS are ALIKE, by the words of 10 and a walk of the test's own."""
    test.assertIs(type(paper), tuple)
    heads, rows = paper
    test.assertIs(type(heads), tuple)
    test.assertIs(type(rows), tuple)
    test.assertEqual(one[0], other[0])
    parts = [(Fraction(*share), term) for share, term in one[1]]
    parts.extend((-Fraction(*share), term) for share, term in other[1])
    test.assertEqual(len(rows), len(parts))
    totals = [Fraction(0) for _ in heads]
    for (share, term), row in zip(parts, rows):
        test.assertIs(type(row), tuple)
        test.assertIs(type(row[-1]), tuple)
        if row[0] == "nought":
            test.assertEqual(len(row), 2)
            test.assertEqual(own_walk(gear, term, row[1]), (-1, term))
        else:
            word, at, steps = row
            test.assertEqual(word, "head")
            test.assertIs(type(at), int)
            test.assertIn(at, range(len(heads)))
            sign, told = own_walk(gear, term, steps)
            test.assertEqual(told, heads[at])
            totals[at] += sign * share
    test.assertEqual(totals, [0] * len(heads))


def need_witness(test, gear, one, other, witness, sizes=None):
    """Needs it to be a WITNESS that the two SUMS aren't ALIKE, by the words of 11; of these SIZES, if told."""
    test.assertIs(type(witness), tuple)
    told, arrays, row = witness
    if sizes is not None:
        test.assertEqual(told, sizes)
    test.assertIsNone(need_arrays(gear, told, arrays))
    test.assertEqual({fraction[1] for rows in arrays for _, fraction in rows} - {1}, set())
    test.assertIs(type(row), tuple)
    size_of = dict(zip(gear[0], told))
    test.assertEqual(len(row), len(one[0]))
    for number, (_, space, _) in zip(row, one[0]):
        test.assertIs(type(number), int)
        test.assertIn(number, range(size_of[space]))
    # Neither is refused, as 11 tells.
    worths = [dict(worth(gear, told, arrays, given)).get(row, (0, 1)) for given in (one, other)]
    test.assertNotEqual(worths[0], worths[1])
    small = 1
    for size in told:
        small *= size ** 4
    if small <= 256:
        plain = [dict(plain_worth(gear, told, arrays, given)).get(row, (0, 1)) for given in (one, other)]
        test.assertEqual(plain, worths)


def free_for(gear, box, names):
    """The FREE of a SUM that puts the BOX with these NAMES in its SLOTS."""
    return tuple(sorted((name, *kind) for name, kind in zip(names, kinds_of(gear, box))))


def a_definition(rnd, gear, box, most, many, pool=POOL):
    """A DEFINITION of the BOX, of so many PARTS."""
    names = tuple(rnd.sample(pool, len(kinds_of(gear, box))))
    return names, a_sum(rnd, gear, free_for(gear, box, names), most, many)


def defined_entries(gear, sizes, arrays, box, definition):
    """What stands at each ROW of the BOX where it has the WORTH of its DEFINITION; sizes by SPACES."""
    names, given = definition
    own = [name for name, _, _ in given[0]]
    told = {}
    for row, number in brute_worth(gear, sizes, arrays, given).items():
        told[tuple(row[own.index(name)] for name in names)] = number
    for row in itertools.product(*[range(sizes[space]) for space, _ in kinds_of(gear, box)]):
        told.setdefault(row, 0)
    return told
