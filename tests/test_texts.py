"""Promise 18 as slotsure.texts tells it: the texts of GEARS, SUMS, ARRAYS and STEPS."""

import random
import unittest

from helper import (
    BARE_GEAR, BIG_GEAR, GEAR, NOTHINGS, SMALL_GEAR, SUM_GEAR, a_sum, few_arrays, need_refused, need_same_by_name, put,
    some_step, terms,
)
from slotsure.errors import BadArrays, BadGear, BadSizes, BadStep, BadSum, BadTerm
from slotsure.texts import arrays_text, gear_text, steps_text, sum_text

ONE = (1, 1)
AB = (("a", "v", "up"), ("b", "v", "down"))
NONE = ((),) * 8
TERM = (("f", ("a", "k")), ("m", ("k", "l")), ("q", ("b", "l", "c", "d")), ("s", ()))
NO_GEARS = (*NOTHINGS, (), (("b", "a"), ()), [GEAR[0], GEAR[1]], put(GEAR, (1, 0, 2, 0, 1), 2))
NO_SUMS = (*NOTHINGS, (), (AB,), (AB, []), (AB, ((ONE, ()),)), (AB, (((2, 2), (("m", ("a", "b")),)),)))


class TextCase(unittest.TestCase):
    def need_text(self, call, names, things, lines):
        told = need_same_by_name(self, call, names, things)
        self.assertIs(type(told), str)
        self.assertEqual(told, "\n".join(lines))


class GearText(TextCase):
    def test_word_for_word(self):
        for gear, lines in (
            (SMALL_GEAR, ["spaces a"]), ((("a", "b", "c"), ()), ["spaces a b c"]),
            (BARE_GEAR, ["spaces a", "box a", "box b", "move +", "box c", "move -", "move +", "move -"]),
            (GEAR, [
                "spaces v w", "box e v up v up", "move 1 0 +", "box f v down v down", "move 1 0 -", "box m v up v down",
                "box n v up w down", "move 0 1 -", "box q v up v up v down v down", "move 1 0 2 3 -", "move 0 1 3 2 -",
                "move 1 0 3 2 +", "box r w up w up w up", "move 1 2 0 +", "box s", "box t v down w down",
            ]),
            ((("box", "up"), (("down", (("up", "down"), ("box", "up")), (((0, 1), -1),)), ("move", (), ()))), [
                "spaces box up", "box down up down box up", "move 0 1 -", "box move",
            ]),
        ):
            self.need_text(gear_text, ("gear",), (gear,), lines)
        self.assertEqual(gear_text(BIG_GEAR).count("\n"), 8 * 4)

    def test_bad_gear(self):
        for thing in NO_GEARS:
            need_refused(self, BadGear, gear_text, thing)


class SumText(TextCase):
    def test_word_for_word(self):
        for given, lines in (
            (((), ()), ["free"]), ((AB, ()), ["free a v up b v down"]),
            (((), (((1, 2), ()),)), ["free", "part 1/2"]),
            (((), (((0, 1), ()), ((0, 1), ()))), ["free", "part 0/1", "part 0/1"]),
            (((), (((-3, 7), (("s", ()), ("s", ()))),)), ["free", "part -3/7 s s"]),
            ((AB, (
                ((-2, 1), (("m", ("a", "c")), ("s", ()), ("m", ("c", "b")))), ((10 ** 40, 3), (("m", ("a", "b")),)),
            )), [
                "free a v up b v down", "part -2/1 m a c s m c b", "part 1" + "0" * 40 + "/3 m a b",
            ]),
            (((("free", "w", "down"), ("part", "v", "down")), ((ONE, (("t", ("part", "free")),)),)), [
                "free free w down part v down", "part 1/1 t part free",
            ]),
        ):
            self.need_text(sum_text, ("gear", "given"), (GEAR, given), lines)

    def test_refusals_in_order(self):
        for thing in NO_GEARS:
            need_refused(self, BadGear, sum_text, thing, ((), ()))
            need_refused(self, BadGear, sum_text, thing, None)
        for thing in NO_SUMS:
            need_refused(self, BadSum, sum_text, GEAR, thing)


class ArraysText(TextCase):
    def test_word_for_word(self):
        arrays = put(NONE, (0,), (((0, 1), (1, 2)), ((1, 0), (1, 2)), ((23, 23), (-5, 1))))
        arrays = put(put(arrays, (6,), (((), (-1, 3)),)), (5,), (((10, 10, 10), (7, 9)),))
        for gear, sizes, told, lines in (
            (SMALL_GEAR, (1,), (), ["sizes 1"]), (GEAR, (24, 2), NONE, ["sizes 24 2"]),
            (GEAR, (24, 11), arrays, [
                "sizes 24 11", "at e 0 1 1/2", "at e 1 0 1/2", "at e 23 23 -5/1", "at r 10 10 10 7/9", "at s -1/3",
            ]),
        ):
            self.need_text(arrays_text, ("gear", "sizes", "arrays"), (gear, sizes, told), lines)

    def test_refusals_in_order(self):
        for thing in NO_GEARS:
            need_refused(self, BadGear, arrays_text, thing, (2, 2), NONE)
            need_refused(self, BadGear, arrays_text, thing, None, None)
        for thing in (*NOTHINGS, (), (2,), (0, 2), (2, 25), (True, 2)):
            need_refused(self, BadSizes, arrays_text, GEAR, thing, NONE)
            need_refused(self, BadSizes, arrays_text, GEAR, thing, None)
        for thing in (*NOTHINGS, NONE[1:], list(NONE), put(NONE, (0,), (((0, 1), ONE),))):
            need_refused(self, BadArrays, arrays_text, GEAR, (2, 2), thing)


class StepsText(TextCase):
    def test_word_for_word(self):
        for steps, lines in (
            ((), []), ((("swap", 0, 3),), ["swap 0 3"]), ((("move", 0, (1, 0), -1),), ["move 0 1 0 -"]),
            ((("move", 3, (), 1),), ["move 3 +"]),
            ((("name", "k", "move"), ("name", "move", "k")), ["name k move", "name move k"]),
            (
                (("move", 2, (1, 0, 3, 2), 1), ("swap", 1, 2), ("move", 1, (0, 1, 3, 2), -1)),
                ["move 2 1 0 3 2 +", "swap 1 2", "move 1 0 1 3 2 -"],
            ),
        ):
            for told in (steps, list(steps)):
                self.need_text(steps_text, ("gear", "term", "steps"), (GEAR, TERM, told), lines)
        self.assertEqual(steps_text(GEAR, (), []), "")

    def test_bad_step_as_in_walk(self):
        good = ("swap", 0, 1)
        for thing in NOTHINGS:
            if type(thing) is not list or thing:
                need_refused(self, BadStep, steps_text, GEAR, TERM, thing, field=("number", 0))
            need_refused(self, BadStep, steps_text, GEAR, TERM, (good, thing), field=("number", 1))
        for step in (
            ("swap", 1, 0), ("swap", 0, 4), ("swap", 0, True), ("move", 4, (), 1), ("move", 3, (), -1),
            ("move", 1, (1, 0), 1), ("name", "a", "x"),
            ("name", "k", "b"), ("name", "k", "X"), ["swap", 0, 1], ("move", 0, [1, 0], -1), ("swap", 0, 1, 2),
            ("turn", 0, 1),
        ):
            need_refused(self, BadStep, steps_text, GEAR, TERM, [step], field=("number", 0))
            need_refused(self, BadStep, steps_text, GEAR, TERM, (good, good, step), field=("number", 2))

    def test_refusals_in_order(self):
        for thing in NO_GEARS:
            need_refused(self, BadGear, steps_text, thing, TERM, ())
            need_refused(self, BadGear, steps_text, thing, None, None)
        for thing in (*NOTHINGS, (("x", ()),), [("s", ())], (("m", ("a",)),)):
            need_refused(self, BadTerm, steps_text, GEAR, thing, ())
            need_refused(self, BadTerm, steps_text, GEAR, thing, None)


class Signs(TextCase):
    def test_words_and_lines(self):
        """Figures and letters by one blank, no blank at an end, no empty line, of whatever is written."""
        rnd = random.Random(90)
        texts = [gear_text(gear) for gear in (GEAR, SUM_GEAR, BIG_GEAR, BARE_GEAR)]
        for sizes in ((1, 1), (3, 24)):
            texts.append(arrays_text(GEAR, sizes, few_arrays(rnd, GEAR, sizes, 6)))
        texts.extend(sum_text(SUM_GEAR, a_sum(rnd, SUM_GEAR, AB, 4, many)) for many in (0, 1, 6))
        for term in terms(rnd, GEAR, 5, 20):
            steps = []
            now = term
            for _ in range(6):
                made = some_step(rnd, GEAR, now)
                if made is not None:
                    steps.append(made[0])
                    now = made[2]
            if steps:
                texts.append(steps_text(GEAR, term, steps))
        for text in texts:
            self.assertRegex(text, r"\A[a-z0-9/+-]+( [a-z0-9/+-]+)*(\n[a-z0-9/+-]+( [a-z0-9/+-]+)*)*\Z")


if __name__ == "__main__":
    unittest.main()
