"""Promise 4 as slotsure.steps tells it: STEPS, and to which TERM and SIGN they lead."""

import copy
import random
import unittest

from helper import BARE_GEAR, GEAR, NOTHINGS, free_of, need_refused, need_same_by_name, put, some_step, terms
from slotsure.errors import BadGear, BadStep, BadTerm
from slotsure.steps import walk

TERM = (("e", ("a", "b")), ("f", ("b", "c")), ("m", ("d", "d")), ("q", ("g", "h", "a", "i")))


class Wild(tuple):
    """Derived from tuple: no tuple of this very kind."""


class Walk(unittest.TestCase):
    def test_no_steps(self):
        for term in (TERM, (), (("s", ()),)):
            for steps in ([], ()):
                self.assertEqual(walk(GEAR, term, steps), (1, term))

    def test_each_sort_of_step(self):
        e, f, m, q = TERM
        for step, sign, wanted in (
            (("swap", 0, 1), 1, (f, e, m, q)),
            (("swap", 0, 3), 1, (q, f, m, e)),
            (("swap", 2, 3), 1, (e, f, q, m)),
            (("move", 0, (1, 0), 1), 1, (("e", ("b", "a")), f, m, q)),
            (("move", 0, (0, 1), 1), 1, TERM),
            (("move", 1, (1, 0), -1), -1, (e, ("f", ("c", "b")), m, q)),
            (("move", 2, (0, 1), 1), 1, TERM),
            (("move", 3, (1, 0, 2, 3), -1), -1, (e, f, m, ("q", ("h", "g", "a", "i")))),
            (("move", 3, (1, 0, 3, 2), 1), 1, (e, f, m, ("q", ("h", "g", "i", "a")))),
            (("name", "a", "x"), 1, (("e", ("x", "b")), f, m, ("q", ("g", "h", "x", "i")))),
            (("name", "d", "abcdefgh"), 1, (e, f, ("m", ("abcdefgh", "abcdefgh")), q)),
            (("name", "b", "e"), 1, (("e", ("a", "e")), ("f", ("e", "c")), m, q)),
        ):
            for steps in ([step], (step,)):
                with self.subTest(steps=steps):
                    told = need_same_by_name(self, walk, ("gear", "term", "steps"), (GEAR, TERM, steps))
                    self.assertEqual(told, (sign, wanted))
                    self.assertIs(type(told), tuple)
                    self.assertIs(type(told[0]), int)

    def test_a_move_takes_what_stood_at_order_k(self):
        term = (("r", ("a", "b", "c")),)
        self.assertEqual(walk(GEAR, term, [("move", 0, (1, 2, 0), 1)]), (1, (("r", ("b", "c", "a")),)))
        self.assertEqual(walk(GEAR, term, [("move", 0, (2, 0, 1), 1)]), (1, (("r", ("c", "a", "b")),)))

    def test_a_move_of_the_group_that_is_not_told(self):
        term = (("n", ("a", "b")),)
        for sign in (1, -1):
            self.assertEqual(walk(GEAR, term, [("move", 0, (0, 1), sign)]), (sign, term))
        self.assertEqual(walk(BARE_GEAR, (("c", ()),), [("move", 0, (), 1), ("move", 0, (), -1)]), (-1, (("c", ()),)))
        term = (("r", ("a", "b", "c")),)
        self.assertEqual(walk(GEAR, term, [("move", 0, (0, 1, 2), 1)]), (1, term))

    def test_one_behind_another(self):
        steps = [
            ("swap", 0, 1), ("move", 0, (1, 0), -1), ("name", "a", "x"), ("name", "b", "a"), ("name", "x", "b"),
            ("swap", 0, 3), ("move", 0, (0, 1, 3, 2), -1), ("move", 0, (1, 0, 2, 3), -1),
        ]
        wanted = (-1, (("q", ("h", "g", "i", "b")), ("e", ("b", "a")), ("m", ("d", "d")), ("f", ("c", "a"))))
        self.assertEqual(walk(GEAR, TERM, steps), wanted)
        self.assertEqual(walk(GEAR, TERM, tuple(steps)), wanted)
        self.assertEqual(len(steps), 8)

    def test_many_walks(self):
        rnd = random.Random(3)
        for term in terms(rnd, GEAR, 6, 150):
            steps, sign, now = [], 1, term
            for _ in range(12):
                found = some_step(rnd, GEAR, now)
                if found is not None:
                    steps.append(found[0])
                    sign *= found[1]
                    now = found[2]
                self.assertEqual(walk(GEAR, term, steps), (sign, now))
            self.assertEqual(walk(GEAR, term, tuple(steps)), (sign, now))
            self.assertEqual(free_of(GEAR, now), free_of(GEAR, term))

    def test_what_is_handed_in_stays_and_is_not_kept(self):
        steps = [("swap", 0, 1)]
        told = walk(GEAR, TERM, steps)
        steps.append(("swap", 1, 2))
        self.assertEqual(told, (1, (TERM[1], TERM[0], TERM[2], TERM[3])))
        wrong = [("swap", 0, 1), ["swap", 1, 0], ("move", 0, [1, 0], 1)]
        before = copy.deepcopy(wrong)
        need_refused(self, BadStep, walk, GEAR, TERM, wrong)
        self.assertEqual(wrong, before)


WRONG_STEPS = [
    # I not below J, beyond the FACTORS, below 0, no whole numbers.
    ("swap", 0, 0), ("swap", 1, 0), ("swap", 3, 3), ("swap", 0, 4), ("swap", 3, 4), ("swap", 4, 5), ("swap", -1, 0),
    ("swap", -2, -1), ("swap", 0, -1), ("swap", 0, True), ("swap", False, 1), ("swap", True, 2), ("swap", "0", 1),
    ("swap", 0, "1"), ("swap", 0.0, 1), ("swap", 0, 1.0), ("swap", None, 1), ("swap", 0, None), ("swap", 0, 2 ** 70),
    ("swap", (0,), 1), ("swap", [], {}), ("swap",), ("swap", 0), ("swap", 0, 1, 2), ("swap", 0, 1, (), 1),
    # MOVES that aren't of the GROUP, and what is no MOVE.
    ("move", 0, (1, 0), -1), ("move", 0, (0, 1), -1), ("move", 1, (1, 0), 1), ("move", 1, (0, 1), -1),
    ("move", 2, (1, 0), 1),
    ("move", 2, (0, 1), -1), ("move", 3, (1, 0, 2, 3), 1), ("move", 3, (2, 3, 0, 1), 1), ("move", 3, (0, 1, 2, 3), -1),
    ("move", 0, (1, 0), 0), ("move", 0, (1, 0), 2), ("move", 0, (1, 0), True), ("move", 0, (True, 0), 1),
    ("move", 0, (1, False), 1), ("move", 0, [1, 0], 1), ("move", 0, "10", 1), ("move", 0, (1.0, 0), 1),
    ("move", 0, (1, 0), 1.0),
    ("move", 0, (1,), 1), ("move", 0, (1, 0, 2), 1), ("move", 0, (), 1), ("move", 0, None, 1),
    ("move", 0, (1, 0), None),
    ("move", 0, (1, 0), "+"), ("move", 0, ([], {}), 1), ("move", 0, (1, 0), []), ("move", 0, (0, 0), 1),
    ("move", 0, (1, 2), 1),
    ("move", 0, (-1, 0), 1), ("move", 0, Wild((1, 0)), 1), ("move", 0, range(2), 1),
    ("move", 4, (1, 0), 1), ("move", -4, (1, 0), 1), ("move", False, (1, 0), 1), ("move", True, (1, 0), -1),
    ("move", "0", (1, 0), 1), ("move", None, (1, 0), 1), ("move", [0], (1, 0), 1), ("move", 0.0, (1, 0), 1),
    ("move",), ("move", 0), ("move", 0, (1, 0)), ("move", 0, (1, 0), 1, 1), ("move", 0, ((1, 0), 1)),
    ("move", 2 ** 70, (1, 0), 1),
    # OLD that isn't JOINED, NEW that stands there or is no NAME.
    ("name", "c", "x"), ("name", "g", "x"), ("name", "x", "y"), ("name", "x", "a"), ("name", "", "x"),
    ("name", "a", "b"),
    ("name", "a", "a"), ("name", "a", "c"), ("name", "a", "d"), ("name", "a", "g"), ("name", "a", ""),
    ("name", "a", "X"),
    ("name", "a", "abcdefghi"), ("name", "a", "x y"), ("name", "a", 1), ("name", "a", None), ("name", "a", ["x"]),
    ("name", "a", ("x",)), ("name", ["a"], "x"), ("name", ("a",), "x"), ("name", None, "x"), ("name", {}, "x"),
    ("name", 0, "x"),
    ("name", b"a", "x"), ("name", "a", b"x"), ("name",), ("name", "a"), ("name", "a", "x", "y"), ("name", "ab", "x"),
    # Another word, no word, no tuple.
    ("turn", 0, 1), ("Swap", 0, 1), ("swap ", 0, 1), ("", 0, 1), ("names", "a", "x"), (0, 0, 1), (None, 0, 1),
    (b"swap", 0, 1),
    (["swap"], 0, 1), (("swap",), 0, 1), ("swap", ("swap", 0, 1)), (("swap", 0, 1),), (), ["swap", 0, 1],
    ["name", "a", "x"],
    ["move", 0, (1, 0), 1], "swap", "swap 0 1", {"swap": 1}, {"swap"}, Wild(("swap", 0, 1)), 0, 1, 2 ** 70,
]


class Refusals(unittest.TestCase):
    def need_bad_step(self, term, steps, number):
        need_refused(self, BadStep, walk, GEAR, term, steps, field=("number", number))

    def test_wrong_steps_at_each_number(self):
        right = [("swap", 0, 1), ("swap", 0, 1), ("name", "a", "u"), ("name", "u", "a"), ("move", 0, (0, 1), 1)]
        for at, step in enumerate([*WRONG_STEPS, *NOTHINGS]):
            for ahead in range(len(right) + 1):
                # Where the first two stand alone, the TERM is what it was.
                if ahead in (0, 2, 4, 5):
                    with self.subTest(at=at, ahead=ahead):
                        self.need_bad_step(TERM, [*right[:ahead], step], ahead)
                        self.need_bad_step(TERM, (*right[:ahead], step, *right), ahead)

    def test_things_of_any_kind_at_each_place_of_a_step(self):
        for step in (("swap", 0, 1), ("move", 0, (1, 0), 1), ("name", "a", "x")):
            for at in range(len(step)):
                for number, thing in enumerate(NOTHINGS):
                    with self.subTest(step=step, at=at, number=number):
                        self.need_bad_step(TERM, [put(step, (at,), thing)], 0)
        for thing in NOTHINGS:
            self.need_bad_step(TERM, [("move", 0, (1, thing), 1)], 0)

    def test_judged_by_the_term_to_which_those_ahead_lead(self):
        for steps, number in (
            ([("name", "a", "x"), ("name", "a", "y")], 1),
            ([("name", "a", "x"), ("name", "b", "x")], 1),
            ([("name", "a", "x"), ("name", "x", "y"), ("name", "x", "z")], 2),
            ([("swap", 0, 1), ("move", 0, (1, 0), 1)], 1),
            ([("swap", 0, 3), ("move", 3, (0, 1, 3, 2), -1)], 1),
            ([("swap", 0, 1), ("move", 1, (1, 0), 1), ("move", 0, (1, 0), -1), ("swap", 1, 1)], 3),
        ):
            self.need_bad_step(TERM, steps, number)
            self.need_bad_step(TERM, tuple(steps), number)

    def test_the_first_of_several(self):
        self.need_bad_step(TERM, [("swap", 0, 1), None, ("swap", 5, 6), None], 1)
        self.need_bad_step(TERM, [("swap", 1, 0), None], 0)

    def test_neither_list_nor_tuple(self):
        step = ("swap", 0, 1)
        neither = [thing for thing in NOTHINGS if type(thing) != list]
        for steps in (*neither, {0: step}, {step}, "", "swap", 0, 3, Wild((step,))):
            self.need_bad_step(TERM, steps, 0)
            self.need_bad_step((), steps, 0)

    def test_a_step_handed_in_for_steps(self):
        self.need_bad_step(TERM, ("swap", 0, 1), 0)

    def test_terms_with_too_few_factors(self):
        for step in (("swap", 0, 1), ("move", 0, (), 1), ("name", "a", "b")):
            self.need_bad_step((), [step], 0)
        self.need_bad_step((("s", ()),), [("swap", 0, 1)], 0)
        self.need_bad_step((("s", ()),), [("move", 0, (), -1)], 0)
        self.need_bad_step((("s", ()),), [("move", 0, (0,), 1)], 0)

    def test_bad_gear_then_bad_term_then_bad_step(self):
        for gear in (*NOTHINGS, (("b", "a"), ())):
            need_refused(self, BadGear, walk, gear, None, None)
            need_refused(self, BadGear, walk, gear, (), [])
        for term in (*NOTHINGS, (("e", ("a", "a")),), [("s", ())], (("x", ()),)):
            need_refused(self, BadTerm, walk, GEAR, term, None)
            need_refused(self, BadTerm, walk, GEAR, term, [])
            need_refused(self, BadTerm, walk, GEAR, term, [("swap", 1, 0)])
        need_refused(self, BadTerm, lambda: walk(steps=0, term=0, gear=GEAR))
        need_refused(self, BadGear, lambda: walk(steps=0, term=0, gear=0))


if __name__ == "__main__":
    unittest.main()
