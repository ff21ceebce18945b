"""Promise 19 as slotsure.reading tells it: just the texts of 18 are read, the first line that can't stand is told."""

import itertools
import random
import time
import unittest
from fractions import Fraction

from helper import (
    BARE_GEAR, BIG_GEAR, GEAR, NOTHINGS, SMALL_GEAR, SUM_GEAR, a_sum, few_arrays, need_refused, need_same_by_name, put,
    some_step, terms,
)
from slotsure.errors import BadGear, BadLine, BadTerm
from slotsure.reading import arrays_in, gear_in, steps_in, sum_in
from slotsure.steps import walk
from slotsure.texts import arrays_text, gear_text, steps_text, sum_text

ONE = (1, 1)
AB = (("a", "v", "up"), ("b", "v", "down"))
TERM = (("f", ("a", "k")), ("m", ("k", "l")), ("q", ("b", "l", "c", "d")), ("s", ()))
NO_GEARS = (*NOTHINGS, (), (("b", "a"), ()), [GEAR[0], GEAR[1]])
WORDS_GEAR = (
    ("free", "up"),
    (
        ("at", (("up", "up"), ("free", "down")), ()), ("box", (("up", "down"),), ()),
        ("down", (("up", "up"), ("up", "up")), (((1, 0), -1),)),
        ("move", (), (((), 1),)), ("part", (("free", "up"),), ()), ("sizes", (), ()), ("spaces", (("up", "up"),), ()),
        ("swap", (), ()),
    ),
)
# Signs that may stand in a text, as words and between them.
STRANGE = (
    "0", "00", "-0", "+1", "1", "-1", "01", "a", "A", "é", "a1", "+", "-", "+-", "/", "1/", "/1", "1/1/1", "2/4", "0/2",
    "0/1", "1/0", "1/-1", "-0/1",
    "+1/2", "01/2", "1/02", "-1/2", "--1/2", "1.0", "up", "down", "Up", "box", "move", "free", "part", "at", "swap",
    "name", "sizes", "spaces", "x",
    "abcdefghi", "\t", "a\t", "\r", "²", "٣", "1_0", "0x1", "1e1", "25", "99999999999999999999", "v", "w", "e", "m",
    "s", "q", "k",
)


def changed_texts(text):
    """(text, line) for texts that can't be read, with the first line that was touched."""
    lines = text.split("\n")
    for at, line in enumerate(lines):
        def made(*rows):
            return "\n".join(lines[:at] + list(rows) + lines[at + 1:])

        words = line.split(" ")
        for other in (" " + line, line + " ", line + "\t", line.upper(), line + "\r"):
            yield made(other), at + 1
        yield made("", line), at + 1
        yield made(line, ""), at + 2
        for place in range(1, len(words)):
            yield made(" ".join(words[:place]) + "  " + " ".join(words[place:])), at + 1
            yield made(" ".join(words[:place]) + "\t" + " ".join(words[place:])), at + 1


class ReadingCase(unittest.TestCase):
    def need_bad(self, call, *things, line):
        need_refused(self, BadLine, call, *things, field=("line", line))

    def need_all_kinds(self, call, ahead, text):
        """Needs what is told of no text and of blanks and line ends too many."""
        for thing in (*NOTHINGS, 0, 1, ("spaces a",), ["free"], b"free", b"", {"free": 1}):
            if type(thing) is not str:
                self.need_bad(call, *ahead, thing, line=0)
        for other, line in changed_texts(text):
            self.need_bad(call, *ahead, other, line=line)

    def need_strange(self, call, ahead, text, write):
        """Each word left out, twice, another one, one more: read is it only if it is written so."""
        lines = text.split("\n")
        for at, line in enumerate(lines):
            words = line.split(" ")
            rows = [words[:place] + words[place + 1:] for place in range(len(words))]
            rows.extend(words[:place] + [word] + words[place:] for place in range(len(words) + 1) for word in STRANGE)
            rows.extend(words[:place] + [word] + words[place + 1:] for place in range(len(words)) for word in STRANGE)
            for row in rows:
                other = "\n".join(lines[:at] + [" ".join(row)] + lines[at + 1:])
                try:
                    told = call(*ahead, other)
                except BadLine as refusal:
                    self.assertGreaterEqual(refusal.line, at + 1)
                    self.assertLessEqual(refusal.line, len(lines) + 1)
                    continue
                self.assertEqual(write(told), other)

    def need_lines(self, call, ahead, cases):
        for lines, wanted in cases:
            with self.subTest(lines=lines):
                self.need_bad(call, *ahead, "\n".join(lines), line=wanted)


class GearIn(ReadingCase):
    def test_what_is_written(self):
        gears = [GEAR, SUM_GEAR, BARE_GEAR, BIG_GEAR, SMALL_GEAR, WORDS_GEAR, (("a", "b", "c"), ())]
        gears.append((("a",), (("a", (("a", "up"),) * 4, (((3, 2, 1, 0), 1),) * 3),)))
        for gear in gears:
            text = gear_text(gear)
            self.assertEqual(need_same_by_name(self, gear_in, ("text",), (text,)), gear)
            # Each line may be the last.
            lines = text.split("\n")
            for many in range(1, len(lines)):
                told = gear_in("\n".join(lines[:many]))
                self.assertEqual(gear_text(told), "\n".join(lines[:many]))

    def test_no_text_blanks_and_strange_words(self):
        for gear in (GEAR, BARE_GEAR, WORDS_GEAR, SMALL_GEAR):
            self.need_all_kinds(gear_in, (), gear_text(gear))
        for gear in (put(GEAR, (1,), GEAR[1][:4]), BARE_GEAR):
            self.need_strange(gear_in, (), gear_text(gear), gear_text)

    def test_lines(self):
        self.need_lines(gear_in, (), (
            ([""], 1), (["", ""], 1), (["spaces"], 1), (["spaces a b c d"], 1), (["spaces b a"], 1),
            (["spaces a a"], 1), (["space a"], 1),
            (["box a"], 1), (["spaces A"], 1), (["spaces a", ""], 2), (["spaces a", "spaces a"], 2),
            (["spaces a", "move +"], 2),
            (["spaces a", "box"], 2), (["spaces a", "box a", "box a"], 3), (["spaces a", "box b", "box a"], 3),
            (["spaces a", "box a b up"], 2), (["spaces a", "box a a"], 2), (["spaces a", "box a up a"], 2),
            (["spaces a", "box a a over"], 2),
            (["spaces a", "box a" + " a up" * 5], 2), (["spaces a", "box abcdefghi"], 2), (["spaces a", "box A"], 2),
            (["spaces a"] + ["box " + name for name in "abcdefghi"], 10),
            # No ORDER, too few or too many numbers, no SIGN, an ORDER that exchanges unlike SLOTS, a fourth MOVE.
            (["spaces a", "box b a up a up", "move 0 0 +"], 3), (["spaces a", "box b a up a up", "move 0 +"], 3),
            (["spaces a", "box b a up a up", "move 0 1 2 +"], 3), (["spaces a", "box b a up a up", "move 1 2 +"], 3),
            (["spaces a", "box b a up a up", "move 1 0"], 3), (["spaces a", "box b a up a up", "move 1 0 1"], 3),
            (["spaces a", "box b a up a up", "move 1 0 -1"], 3), (["spaces a", "box b a up a up", "move + 1 0"], 3),
            (["spaces a", "box b a up a up", "move 1 0 + +"], 3), (["spaces a", "box b a up a up", "move"], 3),
            (["spaces a", "box b a up a up", "move 01 0 +"], 3), (["spaces a", "box b a up a up", "move 1 00 +"], 3),
            (["spaces a", "box b a up a up", "move 1 -0 +"], 3), (["spaces a", "box b a up a down", "move 1 0 +"], 3),
            (["spaces a b", "box c a up b up", "move 1 0 +"], 3), (["spaces a", "box b"] + ["move +"] * 4, 6),
            (["spaces a", "box b", "move"], 3), (["spaces a", "box b", "move 0 +"], 3),
            (["spaces a", "box b", "move ++"], 3),
            # A line left out, exchanged with another, twice.
            (["spaces v w", "move 1 0 +", "box f v down v down"], 2), (["box e v up v up", "spaces v w"], 1),
            (["spaces v w", "box f v down v down", "box e v up v up"], 3),
            (["spaces v w", "box e v up v up", "box e v up v up"], 3),
            (["spaces v w", "box e v up v up", "move 1 0 +", "box m v up v down", "move 1 0 -"], 5),
            (["spaces a", "box a", "part 1/1"], 3), (["free"], 1), (["spaces a", "box a", "spaces a"], 3),
        ))


class SumIn(ReadingCase):
    SUM = (AB, (
        ((-2, 3), (("m", ("a", "c")), ("s", ()), ("m", ("c", "b")))), ((0, 1), (("m", ("a", "b")),)),
        ((5, 1), (("m", ("a", "b")),)),
    ))

    def test_what_is_written(self):
        rnd = random.Random(91)
        sums = [(GEAR, self.SUM), (GEAR, ((), ())), (GEAR, (AB, ())), (GEAR, ((), (((0, 1), ()),) * 400))]
        sums.append((GEAR, ((), ((ONE, (("s", ()),) * 6), ((10 ** 900, 7), (("q", ("a", "b", "b", "a")),))))))
        sums.append((WORDS_GEAR, (
            (("part", "up", "down"), ("up", "free", "down")),
            (((1, 2), (("at", ("box", "up")), ("box", ("part",)), ("box", ("box",)))),),
        )))
        for free in ((), AB, (("a", "v", "down"), ("c", "v", "up"), ("d", "w", "up"), ("zz", "w", "down"))):
            sums.append((SUM_GEAR, a_sum(rnd, SUM_GEAR, free, 5, 12)))
        for gear, given in sums:
            text = sum_text(gear, given)
            self.assertEqual(need_same_by_name(self, sum_in, ("gear", "text"), (gear, text)), given)

    def test_no_text_blanks_and_strange_words(self):
        self.need_all_kinds(sum_in, (GEAR,), sum_text(GEAR, self.SUM))
        self.need_strange(sum_in, (GEAR,), sum_text(GEAR, self.SUM), lambda told: sum_text(GEAR, told))
        self.need_all_kinds(sum_in, (GEAR,), "free")

    def test_lines(self):
        first, part = "free a v up b v down", "part 1/2 m a b"
        self.need_lines(sum_in, (GEAR,), (
            ([""], 1), (["part 1/2"], 1), (["free", ""], 2), (["free", "free"], 2), ([first, first], 2),
            (["sizes 1 1"], 1),
            # FREE that isn't one.
            (["free a"], 1), (["free a v"], 1), (["free a v up b"], 1), (["free b v up a v down"], 1),
            (["free a v up a v down"], 1),
            (["free a x up"], 1), (["free a v over"], 1), (["free A v up"], 1), (["free a up v"], 1),
            (["free m n o"], 1),
            # FRACTIONS that are none.
            (["free", "part"], 2), (["free", "part s"], 2), (["free", "part 1"], 2), (["free", "part 2/4"], 2),
            (["free", "part 0/2"], 2),
            (["free", "part 1/0"], 2), (["free", "part 1/-2"], 2), (["free", "part -0/1"], 2),
            (["free", "part +1/2"], 2),
            (["free", "part 01/2"], 2), (["free", "part 1/02"], 2), (["free", "part 00/1"], 2),
            (["free", "part 1/2/3"], 2),
            (["free", "part 1/+2"], 2), (["free", "part --1/2"], 2), (["free", "part -/2"], 2), (["free", "part /"], 2),
            (["free", "part 1.0/1"], 2),
            # FACTORS that are none, too few names, one too many.
            ([first, "part 1/2 x a b"], 2), ([first, "part 1/2 m a"], 2), ([first, "part 1/2 m a b c"], 2),
            ([first, "part 1/2 m a b s s a"], 2),
            ([first, "part 1/2 M a b"], 2), ([first, "part 1/2 m A b"], 2), (["free", "part 1/2" + " s" * 7], 2),
            # FREE names missing at the end of the line, or that stand elsewhere; a third time; that can't be JOINED.
            ([first, "part 1/2"], 2), ([first, "part 1/2 s"], 2), ([first, "part 1/2 m a c"], 2),
            ([first, "part 1/2 m b a"], 2),
            ([first, "part 1/2 m a c m d b"], 2), (["free", part], 2), ([first, "part 1/2 m a b m c c e c d"], 2),
            ([first, "part 1/2 m a b m a c m c d"], 2), ([first, "part 1/2 m a b e c c"], 2),
            ([first, "part 1/2 m a b n c d t d c"], 2),
            ([first, "part 1/2 m a a m b b"], 2),
            # The first of several; one behind good ones.
            ([first, part, "part 1/2 m a", "part"], 3), ([first, part, part, ""], 4), ([first, part, "box a"], 3),
            ([first, part, "free"], 3),
            ([part, first], 1), ([first, part, first], 3),
            (["free"] + ["part 1/1"] * 401, 402), (["free"] + ["part 1/1"] * 400 + [""], 402),
            (["free"] + ["part 1/1"] * 500, 402),
            (["free"] + ["part 1/1"] * 399 + ["part 1/1 s s s s s s s"], 401),
        ))

    def test_refusals_in_order(self):
        for thing in NO_GEARS:
            need_refused(self, BadGear, sum_in, thing, "free")
            need_refused(self, BadGear, sum_in, thing, None)


class ArraysIn(ReadingCase):
    def test_what_is_written(self):
        rnd = random.Random(92)
        rows = [(GEAR, sizes, few_arrays(rnd, GEAR, sizes, many)) for sizes in (
            (1, 1), (3, 2), (24, 24),
        ) for many in (0, 1, 6)]
        rows.append((SMALL_GEAR, (7,), ()))
        rows.append((BARE_GEAR, (1,), ((((), (-10 ** 500, 3)),), (((), ONE),), ())))
        places = list(itertools.product(range(24), repeat=2))[:400]
        rows.append((GEAR, (24, 1), tuple(tuple(
            (row, (at + 1, 7 ** 5)) for at, row in enumerate(places) if (at + 1) % 7
        ) if box == "m" else () for box, _, _ in GEAR[1])))
        rows.append((GEAR, (24, 1), tuple(
            tuple((row, ONE) for row in places) if box == "m" else () for box, _, _ in GEAR[1]
        )))
        rows.append((WORDS_GEAR, (2, 3), few_arrays(rnd, WORDS_GEAR, (2, 3), 5)))
        for gear, sizes, arrays in rows:
            text = arrays_text(gear, sizes, arrays)
            self.assertEqual(need_same_by_name(self, arrays_in, ("gear", "text"), (gear, text)), (sizes, arrays))

    def test_no_text_blanks_and_strange_words(self):
        lines = [
            "sizes 3 2", "at e 0 1 1/2", "at e 1 0 1/2", "at m 0 0 -1/1", "at m 2 1 7/3", "at s 2/1", "at t 0 1 1/1",
        ]
        self.need_all_kinds(arrays_in, (GEAR,), "\n".join(lines))
        self.need_strange(arrays_in, (GEAR,), "\n".join(lines), lambda told: arrays_text(GEAR, *told))
        self.need_all_kinds(arrays_in, (GEAR,), "sizes 3 2")

    def test_lines(self):
        first, m = "sizes 3 2", "at m 0 1 1/2"
        self.need_lines(arrays_in, (GEAR,), (
            ([""], 1), (["sizes"], 1), (["sizes 3"], 1), (["sizes 3 2 1"], 1), (["sizes 0 2"], 1), (["sizes 3 25"], 1),
            (["sizes 03 2"], 1),
            (["sizes -3 2"], 1), (["sizes +3 2"], 1), (["sizes a b"], 1), (["size 3 2"], 1), (["at m 0 1 1/2"], 1),
            ([m, first], 1),
            ([first, ""], 2), ([first, first], 2), ([first, "part 1/2"], 2), ([first, "at"], 2), ([first, "at m"], 2),
            ([first, "at 1/2"], 2),
            # A ROW that isn't one, no FRACTION, no BOX.
            ([first, "at m 0 1"], 2), ([first, "at m 0 1/2"], 2), ([first, "at m 0 1 0 1/2"], 2),
            ([first, "at m 0 3 1/2"], 2),
            ([first, "at m 3 0 1/2"], 2), ([first, "at t 0 2 1/2"], 2), ([first, "at m 0 01 1/2"], 2),
            ([first, "at m 00 1 1/2"], 2),
            ([first, "at m -0 1 1/2"], 2), ([first, "at m 0 -1 1/2"], 2), ([first, "at m 0 a 1/2"], 2),
            ([first, "at x 0 1 1/2"], 2),
            ([first, "at s 0 1/2"], 2), ([first, "at m 0 1 0/1"], 2), ([first, "at m 0 1 2/4"], 2),
            ([first, "at m 0 1 1/0"], 2),
            ([first, "at m 0 1 -0/1"], 2), ([first, "at m 0 1 +1/2"], 2), ([first, "at m 0 1 1"], 2),
            ([first, "at m 0 1 1/2 1/2"], 2),
            ([first, "at m 0 1 1/-2"], 2), ([first, "at m 99999999999999999999 1 1/2"], 2),
            # ROWS that don't rise, BOXES that don't.
            ([first, m, m], 3), ([first, m, "at m 0 1 3/1"], 3), ([first, m, "at m 0 0 1/2"], 3),
            ([first, "at m 1 0 1/1", m], 3),
            ([first, "at s 1/1", "at s 2/1"], 3), ([first, "at s 1/1", m], 3), ([first, "at t 0 0 1/1", "at s 1/1"], 3),
            ([first, m, "at s 1/1", "at m 1 1 1/1"], 4),
            # All lines together: the line after the last.
            ([first, "at e 0 1 1/2"], 3), ([first, "at e 0 1 1/2", "at e 1 0 -1/2"], 4),
            ([first, "at e 0 1 1/2", "at e 1 0 1/3", m], 5),
            ([first, "at f 0 0 1/1"], 3), ([first, "at n 0 0 1/1"], 3),
            ([first, "at r 0 0 1 1/1", "at r 0 1 0 1/1"], 4),
            # A line that can't stand comes ahead of it.
            ([first, "at e 0 1 1/2", "at e 0 1 1/2"], 3), ([first, "at f 0 0 1/1", "at m 0 0"], 3),
            ([first, "at e 0 1 1/2", ""], 3),
        ))
        places = list(itertools.product(range(24), repeat=2))
        lines = ["sizes 24 1"] + ["at m " + str(one) + " " + str(other) + " 1/1" for one, other in places]
        self.need_lines(
            arrays_in, (GEAR,), (
                (lines[:402], 402), (lines, 402), (lines[:401] + ["at n 0 0 1/1", ""], 403), (lines[:401] + [""], 402),
            ),
        )
        self.assertEqual(len(arrays_in(GEAR, "\n".join(lines[:401]))[1][2]), 400)
        self.need_lines(
            arrays_in, (BARE_GEAR,), (
                (["sizes 1", "at c 1/1"], 3), (["sizes 1", "at a 1/1", "at b 1/1", "at b 1/1"], 4),
            ),
        )

    def test_refusals_in_order(self):
        for thing in NO_GEARS:
            need_refused(self, BadGear, arrays_in, thing, "sizes 1 1")
            need_refused(self, BadGear, arrays_in, thing, None)


class StepsIn(ReadingCase):
    STEPS = (
        ("swap", 0, 1), ("move", 1, (1, 0), -1), ("name", "k", "swap"), ("move", 2, (1, 0, 3, 2), 1),
        ("name", "swap", "k"), ("move", 3, (), 1),
        ("swap", 2, 3),
    )

    def test_what_is_written(self):
        rnd = random.Random(93)
        text = steps_text(GEAR, TERM, self.STEPS)
        names = ("gear", "term", "text")
        self.assertEqual(need_same_by_name(self, steps_in, names, (GEAR, TERM, text)), self.STEPS)
        for term in terms(rnd, GEAR, 6, 40):
            steps, now = [], term
            for _ in range(10):
                made = some_step(rnd, GEAR, now)
                if made is not None:
                    steps.append(made[0])
                    now = made[2]
            text = steps_text(GEAR, term, steps)
            told = steps_in(GEAR, term, text)
            self.assertEqual(told, tuple(steps))
            self.assertEqual(walk(GEAR, term, told)[1], now)

    def test_no_steps(self):
        for gear, term in ((GEAR, TERM), (GEAR, ()), (SMALL_GEAR, ())):
            self.assertEqual(need_same_by_name(self, steps_in, ("gear", "term", "text"), (gear, term, "")), ())
            for text in (" ", "\n", "\n\n", "  ", "\nswap 0 1"):
                self.need_bad(steps_in, gear, term, text, line=1)

    def test_no_text_blanks_and_strange_words(self):
        text = steps_text(GEAR, TERM, self.STEPS)
        self.need_all_kinds(steps_in, (GEAR, TERM), text)
        self.need_strange(steps_in, (GEAR, TERM), text, lambda told: steps_text(GEAR, TERM, told))

    def test_lines(self):
        self.need_lines(steps_in, (GEAR, TERM), (
            (["swap 1 0"], 1), (["swap 0 0"], 1), (["swap 0 4"], 1), (["swap 0"], 1), (["swap"], 1),
            (["swap 0 1 2"], 1), (["swap 0 01"], 1),
            (["swap -0 1"], 1), (["swap +0 1"], 1), (["swap a b"], 1), (["Swap 0 1"], 1), (["turn 0 1"], 1),
            (["part 1/1"], 1),
            (["swap 0 99999999999999999999"], 1), (["swap 0 1", ""], 2), (["", "swap 0 1"], 1),
            # MOVES of the FACTOR's GROUP alone.
            (["move 0 1 0 +"], 1), (["move 0 1 0"], 1), (["move 0 1 0 1"], 1), (["move 0 1 0 -1"], 1),
            (["move 0 0 1 -"], 1), (["move 4 +"], 1),
            (["move 3 -"], 1), (["move 3 0 +"], 1), (["move 3"], 1), (["move"], 1), (["move +"], 1),
            (["move 0 1 0 2 -"], 1), (["move 1 1 0 -"], 1),
            (["move 0 - 1 0"], 1), (["move 0 1 -0 -"], 1), (["move 00 1 0 -"], 1), (["move 2 1 0 3 2 -"], 1),
            # Names that are FREE, that stand there, that are none.
            (["name a x"], 1), (["name x y"], 1), (["name k b"], 1), (["name k k"], 1), (["name k X"], 1),
            (["name k abcdefghi"], 1), (["name k"], 1),
            (["name k x y"], 1), (["name"], 1), (["name k 1"], 1),
            # One that can't stand where it comes.
            (["swap 0 1", "move 0 1 0 -"], 2), (["name k x", "name k y"], 2), (["name k x", "name l x"], 2),
            (["name k x", "name l k", "name k x"], 3),
            (["swap 0 3", "swap 0 3", "move 0 1 0 -", "move 3 1 0 -"], 4), (["swap 0 1", "swap 0", "swap"], 2),
        ))
        self.need_lines(steps_in, (GEAR, ()), ((["swap 0 1"], 1), (["move 0 +"], 1), (["name a b"], 1)))

    def test_refusals_in_order(self):
        for thing in NO_GEARS:
            need_refused(self, BadGear, steps_in, thing, TERM, "")
            need_refused(self, BadGear, steps_in, thing, None, None)
        for thing in (*NOTHINGS, (("x", ()),), [("s", ())], (("m", ("a",)),)):
            need_refused(self, BadTerm, steps_in, GEAR, thing, "")
            need_refused(self, BadTerm, steps_in, GEAR, thing, None)


class LongTexts(ReadingCase):
    def test_within_seconds(self):
        start = time.perf_counter()
        steps = (("swap", 0, 1), ("name", "k", "x"), ("name", "x", "k"), ("swap", 0, 1)) * 4000
        text = steps_text(GEAR, TERM, steps)
        self.assertEqual(steps_in(GEAR, TERM, text), steps)
        self.need_bad(steps_in, GEAR, TERM, text + "\nname k", line=len(steps) + 1)
        rnd = random.Random(94)
        given = a_sum(rnd, SUM_GEAR, AB, 6, 400)
        self.assertEqual(sum_in(SUM_GEAR, sum_text(SUM_GEAR, given)), given)
        places = list(itertools.product(range(24), repeat=2))[:400]
        gear = (("v",), tuple((name, (("v", "up"),) * 2, ()) for name in "abcdefgh"))
        arrays = tuple(tuple(
            (row, Fraction(at + 1, 9).as_integer_ratio()) for at, row in enumerate(places)
        ) for _ in range(8))
        self.assertEqual(arrays_in(gear, arrays_text(gear, (24,), arrays)), ((24,), arrays))
        self.need_bad(sum_in, GEAR, "free" + "\n" * 200000, line=2)
        self.need_bad(gear_in, " " * 200000, line=1)
        self.need_bad(arrays_in, GEAR, "sizes 1 1" + " 1" * 90000, line=1)
        self.need_bad(sum_in, GEAR, "free\npart 1/1" + " s" * 90000, line=2)
        self.assertLess(time.perf_counter() - start, 20)

    def test_great_numbers(self):
        for number in (10 ** 999, -(10 ** 999) + 1, 7 ** 1180):
            given = ((), (((number, 1), ()), ((1, abs(number)), ())))
            self.assertEqual(sum_in(GEAR, sum_text(GEAR, given)), given)


if __name__ == "__main__":
    unittest.main()
