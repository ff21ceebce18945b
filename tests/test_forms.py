"""Promises 4 and 5 as slotsure.forms tells them: TELLINGS, NOUGHT, FORMS, WEIGHT."""

import itertools
import random
import time
import unittest
import unittest.mock

from helper import (
    BARE_GEAR, BIG_GEAR, DOWN, GEAR, NOTHINGS, UP, brute_weight, brute_worth, free_of, is_nought, names_of,
    need_refused, need_same_by_name, normal, some_arrays, some_telling, tellings, terms,
)
from slotsure.errors import BadGear, BadTerm, TooGreat
from slotsure.forms import form, form_steps, weight
from slotsure.limits import HEAVY
from slotsure.steps import walk

TURNS = (((1, 0, 2, 3), 1), ((1, 2, 3, 0), 1))
TWISTS = (((1, 0, 2, 3), -1), ((1, 2, 3, 0), -1))
THREE = (((1, 0, 2), 1), ((1, 2, 0), 1))

# GROUPS of 24, 24, 4, 6, 6, 2, 1 and 48 MOVES.
HEAVY_GEAR = (
    ("v",),
    (
        ("a", (UP,) * 4, TURNS),
        ("b", (DOWN,) * 4, TWISTS),
        ("c", (UP, UP, DOWN, DOWN), (((1, 0, 2, 3), 1), ((0, 1, 3, 2), 1))),
        ("d", (UP,) * 3, THREE),
        ("e", (DOWN,) * 3, THREE),
        ("f", (UP, UP), (((1, 0), 1),)),
        ("m", (UP, DOWN), ()),
        ("x", (DOWN,) * 4, TURNS + (((0, 1, 2, 3), -1),)),
    ),
)


class Weight(unittest.TestCase):
    def test_by_hand(self):
        s, m, e, q, n = ("s", ()), ("m", ("a", "b")), ("e", ("c", "d")), ("q", ("e", "f", "g", "h")), ("n", ("i", "j"))
        for term, wanted in (
            ((), 1), ((s,), 1), ((s, s), 2), ((s,) * 6, 720), ((m,), 1), ((e,), 2), ((q,), 4), ((n,), 2),
            ((m, e, q, n), 16),
            ((e, ("f", ("x", "y")), ("e", ("z", "w"))), 16), ((m, s, s, s), 6), ((("r", ("a", "b", "c")),), 3),
            ((("r", ("a", "b", "c")), s, ("r", ("d", "e", "f"))), 18),
        ):
            told = need_same_by_name(self, weight, ("gear", "term"), (GEAR, term))
            self.assertEqual(told, wanted)
            self.assertIs(type(told), int)

    def test_of_many_terms(self):
        rnd = random.Random(4)
        for term in terms(rnd, GEAR, 6, 200):
            self.assertEqual(weight(GEAR, term), brute_weight(GEAR, term))

    def test_is_told_of_any_greatness(self):
        term = tuple(("a", tuple("abcdefghijklmnopqrstuvwx"[4 * k:4 * k + 4])) for k in range(6))
        self.assertEqual(weight(BIG_GEAR, term), 720 * 24 ** 6)
        self.assertEqual(weight(BARE_GEAR, (("c", ()),) * 6), 720 * 64)


class FormCase(unittest.TestCase):
    def need_form(self, gear, term):
        """Needs what form and form_steps tell of a TERM to be so, and tells it."""
        sign, told = form(gear, term)
        steps = form_steps(gear, term)
        self.assertIs(type(steps), tuple)
        self.assertEqual([type(step) for step in steps], [tuple] * len(steps))
        self.assertIs(type(sign), int)
        if told is None:
            self.assertEqual(sign, 0)
            self.assertEqual(walk(gear, term, steps), (-1, term))
        else:
            self.assertIn(sign, (1, -1))
            self.assertEqual(walk(gear, term, steps), (sign, told))
            self.assertEqual(form(gear, told), (1, told))
            self.assertEqual(walk(gear, told, form_steps(gear, told)), (1, told))
            self.assertEqual(free_of(gear, told), free_of(gear, term))
        return sign, told

    def need_tellings(self, rnd, gear, term, many):
        """Needs the very same FORM of many TELLINGS, the SIGNS in step."""
        sign, told = self.need_form(gear, term)
        for _ in range(many):
            factor, other = some_telling(rnd, gear, term, 14)
            if told is None:
                self.assertEqual(self.need_form(gear, other), (0, None))
            else:
                self.assertEqual(self.need_form(gear, other), (sign * factor, told))


class Form(FormCase):
    def test_no_factors(self):
        self.assertEqual(form(GEAR, ()), (1, ()))
        self.assertEqual(form_steps(GEAR, ()), ())

    def test_against_all_tellings(self):
        rnd = random.Random(5)
        noughts = 0
        for term in terms(rnd, GEAR, 4, 250):
            if brute_weight(GEAR, term) > 600:
                continue
            sign, told = self.need_form(GEAR, term)
            if is_nought(GEAR, term):
                noughts += 1
                self.assertIsNone(told)
            else:
                self.assertIn((sign, normal(told)), tellings(GEAR, term))
        self.assertGreater(noughts, 20)

    def test_the_same_of_many_tellings(self):
        rnd = random.Random(6)
        for gear in (GEAR, HEAVY_GEAR):
            for term in terms(rnd, gear, 5, 60):
                if brute_weight(gear, term) <= HEAVY:
                    self.need_tellings(rnd, gear, term, 6)

    def test_factors_of_one_box_exchanged(self):
        row = (("m", ("a", "b")), ("m", ("b", "c")), ("e", ("d", "k")), ("m", ("e", "a")), ("s", ()))
        told = {self.need_form(GEAR, order) for order in itertools.permutations(row)}
        self.assertEqual(len(told), 1)

    def test_joined_names_of_any_kind(self):
        told = set()
        for a, b, c in itertools.permutations(("a", "b", "c", "zz", "abcdefgh", "x", "v", "e"), 3):
            told.add(self.need_form(GEAR, (("q", (a, "y", c, b)), ("m", (b, "w")), ("m", (c, a)))))
        self.assertEqual(len(told), 1)

    def test_seats_to_be_changed_with_one_another(self):
        told = set()
        for order in itertools.permutations("abcd"):
            a, b, c, d = order
            told.add(self.need_form(GEAR, (("m", (a, b)), ("m", (b, c)), ("q", (c, d, d, a)))))
        self.assertEqual(len(told), 1)

    def test_free_names_that_joined_ones_might_have(self):
        for free in itertools.permutations(("a", "b", "c", "d", "e"), 3):
            told = set()
            for joined in itertools.permutations([name for name in "abcdef" if name not in free], 2):
                x, y = joined
                term = (("q", (x, y, free[0], free[1])), ("m", (free[2], x)), ("m", ("z", y)))
                told.add(self.need_form(GEAR, term))
            self.assertEqual(len(told), 1)
        letters = "abcdefghijkl"
        loops = tuple(("m", (name, name)) for name in "xyz")
        self.need_form(GEAR, loops + tuple(("m", (letters[k], letters[k + 1])) for k in (0, 2, 4)))

    def test_moved_by_any_of_the_group(self):
        told = set()
        for order in itertools.permutations("wxyz"):
            sign, found = self.need_form(HEAVY_GEAR, (("b", order), ("a", tuple("abcd"))))
            crossings = [1 for k in range(4) for i in range(k) if order[i] > order[k]]
            told.add((sign * (-1) ** len(crossings), found))
        self.assertEqual(len(told), 1)

    def test_forms_tell_terms_apart(self):
        rnd = random.Random(7)
        gear = (("v",), (("e", (UP, UP), (((1, 0), 1),)), ("f", (DOWN, DOWN), (((1, 0), -1),)), ("m", (UP, DOWN), ())))
        found = [term for term in terms(rnd, gear, 4, 400) if brute_weight(gear, term) <= 100]
        by_free = {}
        for term in found:
            by_free.setdefault((free_of(gear, term), tuple(sorted(box for box, _ in term))), []).append(term)
        pairs = 0
        for row in by_free.values():
            for one, other in itertools.combinations(row, 2):
                if is_nought(gear, one) or is_nought(gear, other):
                    continue
                (sign, told), (factor, wanted) = form(gear, one), form(gear, other)
                alike = {s for s in (1, -1) if (s, normal(other)) in tellings(gear, one)}
                self.assertEqual(told == wanted, bool(alike))
                if alike:
                    self.assertEqual(alike, {sign * factor})
                pairs += 1
        self.assertGreater(pairs, 50)

    def test_unlike_rings_paths_and_free_names(self):
        one_ring = (("m", ("a", "b")), ("m", ("b", "c")), ("m", ("c", "d")), ("m", ("d", "a")))
        two_rings = (("m", ("a", "b")), ("m", ("b", "a")), ("m", ("c", "d")), ("m", ("d", "c")))
        with_loop = (("m", ("a", "a")), ("m", ("b", "c")), ("m", ("c", "d")), ("m", ("d", "b")))
        self.assertEqual(len({form(GEAR, term) for term in (one_ring, two_rings, with_loop)}), 3)
        self.assertNotEqual(form(GEAR, (("m", ("a", "b")),)), form(GEAR, (("m", ("b", "a")),)))
        self.assertNotEqual(form(GEAR, (("m", ("a", "b")),)), form(GEAR, (("m", ("a", "c")),)))
        # q joined straight and across are each other's TELLINGS with -1.
        self.assertEqual(form(GEAR, (("q", ("a", "b", "a", "b")),))[1], form(GEAR, (("q", ("a", "b", "b", "a")),))[1])
        self.assertEqual(form(GEAR, (("q", ("a", "b", "a", "b")),))[0], -form(GEAR, (("q", ("a", "b", "b", "a")),))[0])

    def test_the_worth_times_the_sign(self):
        rnd = random.Random(8)
        for term in terms(rnd, GEAR, 4, 60):
            if len(set(names_of(term))) > 7 or brute_weight(GEAR, term) > HEAVY:
                continue
            sign, told = form(GEAR, term)
            free = free_of(GEAR, term)
            sizes = {"v": 2, "w": 3}
            arrays = some_arrays(rnd, GEAR, sizes)
            worth = brute_worth(GEAR, sizes, arrays, (free, (((1, 1), term),)))
            parts = () if told is None else (((sign, 1), told),)
            self.assertEqual(worth, brute_worth(GEAR, sizes, arrays, (free, parts)))

    def test_by_place_and_by_name_and_again(self):
        for term in (TERM_WITH_ALL, NOUGHTS[1], ()):
            need_same_by_name(self, form, ("gear", "term"), (GEAR, term))
            need_same_by_name(self, form_steps, ("gear", "term"), (GEAR, term))


TERM_WITH_ALL = (("m", ("b", "a")), ("q", ("a", "x", "b", "y")), ("e", ("c", "k")))

NOUGHTS = [
    # A BOX that is NOUGHT by itself, and beside others.
    (("n", ("a", "b")),),
    (("n", ("a", "b")), ("e", ("c", "d"))),
    (("m", ("c", "a")), ("n", ("b", "k")), ("r", ("k", "x", "y")), ("s", ())),
    # An odd BOX joined with an even one over two names.
    (("e", ("a", "b")), ("f", ("a", "b"))),
    (("f", ("z", "b")), ("e", ("b", "z"))),
    (("e", ("a", "b")), ("f", ("b", "a")), ("m", ("c", "d"))),
    (("m", ("x", "y")), ("e", ("a", "b")), ("f", ("b", "a")), ("m", ("y", "x"))),
    # Rings of FACTORS, which a turn about makes of themselves with -1.
    (("e", ("a", "b")), ("f", ("b", "c")), ("e", ("c", "d")), ("f", ("d", "e")), ("e", ("e", "g")), ("f", ("g", "a"))),
]


class Nought(FormCase):
    def test_noughts(self):
        for at, term in enumerate(NOUGHTS):
            with self.subTest(at=at):
                self.assertTrue(is_nought(GEAR, term))
                self.assertEqual(form(GEAR, term), (0, None))
                self.assertEqual(self.need_form(GEAR, term), (0, None))

    def test_not_so_near_to_them(self):
        for term in (
            (("e", ("a", "b")), ("f", ("a", "c"))),
            (("f", ("a", "b")),),
            (("e", ("a", "b")), ("f", ("b", "c")), ("e", ("c", "d")), ("f", ("d", "a"))),
            (("e", ("a", "b")), ("f", ("b", "c")), ("m", ("d", "a")), ("m", ("c", "d"))),
            (("e", ("a", "b")), ("f", ("a", "d")), ("m", ("d", "b"))),
            (("m", ("a", "a")),),
        ):
            self.assertFalse(is_nought(GEAR, term))
            sign, told = self.need_form(GEAR, term)
            self.assertIn(sign, (1, -1))
            self.assertIn((sign, normal(told)), tellings(GEAR, term))

    def test_boxes_without_slots(self):
        self.assertEqual(form(BARE_GEAR, (("c", ()),)), (0, None))
        self.assertEqual(form_steps(BARE_GEAR, (("c", ()),)), (("move", 0, (), -1),))
        self.assertEqual(form(BARE_GEAR, (("b", ()), ("a", ()), ("b", ()))), (1, (("a", ()), ("b", ()), ("b", ()))))
        self.need_form(BARE_GEAR, (("c", ()), ("a", ()), ("c", ())))

    def test_joined_names_to_be_put_back(self):
        # The way back has to give each JOINED name its own seat again.
        for a, b in itertools.permutations(("a", "b", "c", "x", "yy"), 2):
            term = (("e", (a, b)), ("f", (b, a)))
            self.assertEqual(walk(GEAR, term, form_steps(GEAR, term)), (-1, term))
        rnd = random.Random(9)
        for term in NOUGHTS:
            self.need_tellings(rnd, GEAR, term, 10)


class Great(FormCase):
    def test_too_great_just_above(self):
        six = (((1, 0, 2), 1), ((1, 2, 0), 1))
        gear = (("v",), (("d", (UP,) * 3, six), ("g", (UP,) * 2, (((1, 0), 1),)), ("m", (UP, DOWN), ())))
        names = "abcdefghijklmnopqrstuvwxyz"
        three = tuple(("d", tuple(names[3 * k:3 * k + 3])) for k in range(3))
        # 6 times 6 to the third, times 2; times 4 and 2.
        below = (*three, ("g", ("y", "z")))
        above = (*three, ("g", ("y", "z")), ("g", ("w", "x")))
        self.assertEqual(weight(gear, below), 2592)
        self.assertEqual(self.need_form(gear, below)[0], 1)
        self.assertEqual(weight(gear, above), 10368)
        for call in (form, form_steps):
            need_refused(self, TooGreat, call, gear, above, field=("most", 5000))
        # 24 times 24 times 8 and times 9 lie nearest to 5,000.
        for term, wanted in (
            ((("a", tuple("abcd")), ("b", tuple("abcd")), ("f", ("e", "g")), ("f", ("h", "i"))), 4608),
            ((("a", tuple("abcd")), ("b", tuple("efgh")), ("c", tuple("ijij")), ("f", ("k", "l"))), 4608),
        ):
            self.assertEqual(weight(HEAVY_GEAR, term), wanted)
            self.need_form(HEAVY_GEAR, term)
        term = (("d", tuple("abc")), ("d", tuple("def")), ("d", tuple("ghi")), ("c", tuple("jklm")))
        self.assertEqual(weight(HEAVY_GEAR, term), 5184)
        for call in (form, form_steps):
            need_refused(self, TooGreat, call, HEAVY_GEAR, term, field=("most", 5000))

    def test_just_the_limit_is_not_too_great(self):
        # No WEIGHT is 5,000 itself: so the limit is put where there is one.
        term = (("s", ()),) * 6
        with unittest.mock.patch("slotsure.forms.HEAVY", 720):
            self.assertEqual(form(GEAR, term), (1, term))
            self.assertEqual(form_steps(GEAR, term), ())
        with unittest.mock.patch("slotsure.forms.HEAVY", 719):
            need_refused(self, TooGreat, form, GEAR, term)
            need_refused(self, TooGreat, form_steps, GEAR, term)

    def test_too_great_also_where_it_is_nought(self):
        term = (("x", tuple("abcd")), ("x", tuple("efgh")), ("m", ("y", "z")), ("m", ("u", "v")))
        self.assertGreater(weight(HEAVY_GEAR, term), 5000)
        for call in (form, form_steps):
            need_refused(self, TooGreat, call, HEAVY_GEAR, term, field=("most", 5000))
        for call in (form, form_steps):
            need_refused(self, TooGreat, call, BARE_GEAR, (("c", ()),) * 6, field=("most", 5000))
        term = (("c", ()),) * 5
        self.assertEqual(weight(BARE_GEAR, term), 3840)
        self.assertEqual(self.need_form(BARE_GEAR, term), (0, None))

    def test_within_seconds_just_below(self):
        ring = tuple(("m", ("abcdef"[k], "abcdef"[(k + 1) % 6])) for k in range(6))
        for gear, term in (
            (HEAVY_GEAR, ring),
            (HEAVY_GEAR, tuple(("m", (name, name)) for name in "abcdef")),
            (HEAVY_GEAR, tuple(("m", tuple(pair)) for pair in ("ab", "ba", "cd", "dc", "ef", "fe"))),
            (HEAVY_GEAR, (("a", tuple("abcd")), ("b", tuple("abcd")), ("c", tuple("efef")), ("f", ("g", "h")))),
            (HEAVY_GEAR, (("a", tuple("abcd")), ("b", tuple("abef")), ("c", tuple("efcd")), ("f", ("g", "h")))),
            (HEAVY_GEAR, (("a", tuple("abcd")), ("x", tuple("abcd")), ("f", ("g", "h")), ("m", ("i", "j")))),
            (HEAVY_GEAR, tuple(("c", (a, b, a, b)) for a, b in ("ab", "cd", "ef"))),
            (GEAR, (("s", ()),) * 6),
            (GEAR, tuple(("e", tuple(pair)) for pair in ("ab", "cd", "gh")) +
             tuple(("f", tuple(pair)) for pair in ("bc", "dg", "ha"))),
            (BARE_GEAR, (("c", ()),) * 5),
        ):
            self.assertLessEqual(weight(gear, term), 5000)
            start = time.perf_counter()
            self.need_form(gear, term)
            self.assertLess(time.perf_counter() - start, 5)


class Refusals(unittest.TestCase):
    def test_bad_gear_then_bad_term_then_too_great(self):
        heavy = (("c", ()),) * 6
        for call in (weight, form, form_steps):
            for gear in (*NOTHINGS, (("b", "a"), ())):
                need_refused(self, BadGear, call, gear, None)
                need_refused(self, BadGear, call, gear, heavy)
            for term in (*NOTHINGS, (("e", ("a", "a")),), [("s", ())], (("x", ()),), heavy, (("s", ()),) * 7):
                need_refused(self, BadTerm, call, GEAR, term)
            need_refused(self, BadTerm, call, BARE_GEAR, (("c", ()),) * 7)
            need_refused(self, BadTerm, call, BARE_GEAR, (("c", ()),) * 5 + (("c", ("a",)),))


if __name__ == "__main__":
    unittest.main()
