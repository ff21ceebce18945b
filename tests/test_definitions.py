"""Promise 15 as slotsure.definitions tells it: DEFINITIONS, PUT IN, and the MOVES that they have."""

import copy
import itertools
import random
import time
import unittest
from fractions import Fraction

from helper import (
    BARE_GEAR, GEAR, NOTHINGS, SUM_GEAR, UP, a_definition, a_sum, brute_worth, defined_entries, free_of,
    joined_of, names_of, need_refused, need_same_by_name, normal, some_arrays, spoiled,
)
from slotsure.definitions import has_move, put_in
from slotsure.errors import BadDefinition, BadGear, BadNumber, BadSum, NoBox, TooGreat
from slotsure.joins import even, odd, renamed
from slotsure.sums import need_sum, plain, scaled

AB = (("a", "v", "up"), ("b", "v", "down"))
ONE = (1, 1)
SQUARE = (("a", "b"), (AB, ((ONE, (("m", ("a", "c")), ("m", ("c", "b")))),)))
SUM = (AB, (((2, 3), (("m", ("a", "b")),)), ((-1, 2), (("m", ("a", "c")), ("m", ("c", "b"))))))
SIZES = {"v": 2, "w": 2}
NO_GEARS = (*NOTHINGS, (), (("b", "a"), ()), [GEAR[0], GEAR[1]])
NO_BOXES = (*NOTHINGS, "x", "mm", "v", "up", 0, ("m",), ("m", ()))
NO_SUMS = (*NOTHINGS, (), (AB,), (AB, []), (AB, ((ONE, ()),)), (AB, (((2, 2), SUM[1][0][1]),)), (AB, SUM[1] * 201))

NO_DEFINITIONS = (
    *NOTHINGS, (), (("a", "b"),), (("a", "b"), SUM, ()), [("a", "b"), SUM], (SUM, ("a", "b")),
    # Names too few, too many, alike, no NAMES, a list, not those of FREE.
    ((), SUM), (("a",), SUM), (("a", "b", "c"), SUM), (("a", "a"), SUM), (("b", "b"), SUM), (("A", "b"), SUM),
    (("", "b"), SUM), (("a", 1), SUM), (["a", "b"], SUM), ("ab", SUM), ({"a": 1, "b": 2}, SUM), (("a", "c"), SUM),
    (("x", "y"), SUM), (("a", ["b"]), SUM), ((("a",), "b"), SUM), (None, SUM), (("a", "abcdefghi"), SUM),
    # Of another SIDE, another SPACE than their SLOT.
    (("b", "a"), SUM), (("a", "b"), ((("a", "v", "down"), ("b", "v", "up")), ())),
    (("a", "b"), ((("a", "v", "up"), ("b", "w", "down")), ())),
    (("a", "b"), ((("a", "w", "up"), ("b", "v", "down")), ())),
    (("a", "b"), ((("a", "v", "up"), ("b", "v", "up")), ())), (("a", "b"), ((), ())), (("a", "b"), (AB[:1], ())),
    (("a", "b"), (AB + (("c", "v", "up"),), ())),
    # No SUM.
    *((("a", "b"), thing) for thing in NO_SUMS),
)


class PutIn(unittest.TestCase):
    def need_put(self, gear, box, definition, given):
        names = ("gear", "box", "definition", "given")
        told = need_same_by_name(self, put_in, names, (gear, box, definition, given))
        need_sum(gear, told)
        self.assertEqual(told[0], given[0])
        wanted = []
        for share, term in given[1]:
            places = [names for own, names in term if own == box]
            for row in itertools.product(definition[1][1], repeat=len(places)):
                made = Fraction(*share)
                boxes = [own for own, _ in term if own != box]
                for other, behind in row:
                    made *= Fraction(*other)
                    boxes.extend(own for own, _ in behind)
                wanted.append((made, sorted(boxes)))
        found = [(Fraction(*share), sorted(own for own, _ in term)) for share, term in told[1]]
        self.assertEqual(sorted(found), sorted(wanted))
        return told

    def need_worth(self, rnd, gear, box, definition, given):
        """Needs the WORTH to be that of the SUM by ARRAYS in which the BOX has the WORTH of its DEFINITION."""
        told = self.need_put(gear, box, definition, given)
        arrays = some_arrays(rnd, gear, SIZES)
        outer = {**arrays, box: defined_entries(gear, SIZES, arrays, box, definition)}
        wanted = brute_worth(gear, SIZES, outer, given)
        self.assertEqual(brute_worth(gear, SIZES, arrays, told), wanted)
        return told

    def test_by_hand(self):
        k, l = "m", "e"
        one = (AB, ((ONE, ((k, ("a", "b")),)),))
        told = put_in(GEAR, "m", SQUARE, one)
        self.assertEqual([(share, normal(term)) for share, term in told[1]], [(ONE, normal(SQUARE[1][1][0][1]))])
        # It stands nowhere.
        two = ((("a", "v", "up"), ("b", "v", "up")), (((1, 2), ((l, ("a", "b")),)),))
        self.assertEqual(put_in(GEAR, "m", SQUARE, two), two)
        self.assertEqual(put_in(GEAR, "m", SQUARE, (AB, ())), (AB, ()))
        self.assertEqual(put_in(GEAR, "m", SQUARE, ((), ((ONE, ()),))), ((), ((ONE, ()),)))
        # With no PARTS, and with FRACTION 0.
        self.assertEqual(put_in(GEAR, "m", (("a", "b"), (AB, ())), SUM), (AB, ()))
        told = put_in(GEAR, "m", (("a", "b"), (AB, (((0, 1), (("m", ("a", "b")),)),))), one)
        self.assertEqual(told, (AB, (((0, 1), (("m", ("a", "b")),)),)))
        # A number in the place of a BOX without SLOTS.
        number = ((), ((), (((2, 3), ()),)))
        given = ((), (((1, 2), (("s", ()), ("s", ()))), ((5, 1), ())))
        self.assertEqual(sorted(put_in(GEAR, "s", number, given)[1]), sorted((((2, 9), ()), ((5, 1), ()))))
        # By itself: put in once at each place, not again.
        told = put_in(GEAR, "s", ((), ((), ((ONE, (("s", ()), ("s", ()))), (ONE, ())))), ((), ((ONE, (("s", ()),)),)))
        self.assertEqual(sorted(told[1]), sorted(((ONE, (("s", ()), ("s", ()))), (ONE, ()))))

    def test_one_name_in_two_slots(self):
        given = ((), ((ONE, (("m", ("x", "x")),)),))
        told = self.need_put(GEAR, "m", SQUARE, given)
        self.assertEqual(normal(told[1][0][1]), normal((("m", ("x", "c")), ("m", ("c", "x")))))
        # The DEFINITION's two names in one FACTOR, then; its JOINED name is called as the FACTOR's.
        told = self.need_put(GEAR, "m", SQUARE, ((), ((ONE, (("m", ("c", "c")),)),)))
        self.assertEqual(normal(told[1][0][1]), normal((("m", ("x", "c")), ("m", ("c", "x")))))
        straight = (("p", "q"), ((("p", "v", "up"), ("q", "v", "down")), ((ONE, (("m", ("p", "q")),)),)))
        self.assertEqual(put_in(GEAR, "m", straight, given), given)

    def test_names_that_meet(self):
        rnd = random.Random(70)
        swapped = (("b", "a"), (
            (("a", "v", "down"), ("b", "v", "up")), ((ONE, (("m", ("b", "c")), ("m", ("c", "a")))),),
        ))
        loop = (("a", "c"), (
            (("a", "v", "up"), ("c", "v", "down")),
            (((2, 1), (("m", ("a", "c")), ("m", ("b", "b")))), (ONE, (("m", ("a", "b")), ("m", ("b", "c"))))),
        ))
        for definition in (SQUARE, swapped, loop):
            for term in (
                (("m", ("a", "b")),), (("m", ("a", "c")), ("m", ("c", "b"))), (("m", ("c", "b")), ("m", ("a", "c"))),
                (("m", ("a", "b")), ("m", ("c", "c"))), (("m", ("c", "c")), ("m", ("d", "d")), ("m", ("a", "b"))),
                (("m", ("a", "d")), ("m", ("c", "b")), ("m", ("d", "c"))),
                (("q", ("c", "a", "d", "b")), ("m", ("d", "c"))), (("q", ("a", "d", "b", "d")), ("m", ("c", "c"))),
            ):
                self.need_worth(rnd, GEAR, "m", definition, (AB, ((ONE, term),)))

    def test_names_exchanged_all_at_once(self):
        # The FACTOR has the DEFINITION's NAMES the other way about.
        gear = (("v",), (("e", (UP, UP), ()), ("g", (UP,), ()), ("h", (UP,), ())))
        free = (("a", "v", "up"), ("b", "v", "up"))
        definition = (("a", "b"), (free, ((ONE, (("g", ("a",)), ("h", ("b",)))),)))
        given = (free, ((ONE, (("e", ("b", "a")),)),))
        self.assertEqual(put_in(gear, "e", definition, given), (free, ((ONE, (("g", ("b",)), ("h", ("a",)))),)))
        turned = (("b", "a"), definition[1])
        self.assertEqual(put_in(gear, "e", turned, given), (free, ((ONE, (("g", ("a",)), ("h", ("b",)))),)))

    def test_many(self):
        rnd = random.Random(71)
        seen = 0
        for box in ("e", "f", "g", "h", "m", "q", "t"):
            for many in (0, 1, 2):
                definition = a_definition(rnd, SUM_GEAR, box, 3, many)
                for free in ((), AB, (("a", "v", "up"), ("b", "v", "up"), ("c", "v", "down"))):
                    for _ in range(6):
                        given = a_sum(rnd, SUM_GEAR, free, 4, 3)
                        try:
                            told = self.need_worth(rnd, SUM_GEAR, box, definition, given)
                        except TooGreat as refusal:
                            self.assertEqual(refusal.most, 6)
                            continue
                        seen += told != given
        self.assertGreater(seen, 60)

    def test_several_times_in_one_part_and_in_several_parts(self):
        rnd = random.Random(72)
        definition = (("x", "y"), ((("x", "v", "up"), ("y", "v", "down")), (
            ((1, 2), (("m", ("x", "y")),)), ((-2, 3), (("m", ("x", "k")), ("m", ("k", "y")))),
            ((0, 1), (("m", ("x", "y")), ("s", ()))),
        )))
        term = (("m", ("a", "k")), ("m", ("k", "x")), ("m", ("x", "b")))
        given = (AB, (
            ((3, 1), term), ((1, 5), term[:0] + (("m", ("a", "b")), ("s", ()))),
            ((7, 1), (("m", ("a", "b")), ("m", ("k", "k")))),
        ))
        told = self.need_worth(rnd, GEAR, "m", definition, given)
        self.assertEqual(len(told[1]), 27 + 3 + 9)

    def test_what_comes_is_no_more_than_asked(self):
        # FREE names stay, and JOINED ones are JOINED.
        told = put_in(GEAR, "m", SQUARE, SUM)
        for _, term in told[1]:
            self.assertEqual(free_of(GEAR, term), AB)
            self.assertEqual(len(set(names_of(term))), len(joined_of(term)) + 2)

    def test_too_long_then_too_many_factors(self):
        def number(parts, factors=0):
            return ((), ((), ((ONE, (("b", ()),) * factors),) * parts))

        def given(*rows):
            return (), tuple(
                (share, (("a", ()),) * places + (("b", ()),) * others)
                for share, places, others, many in rows for _ in range(many)
            )

        for definition, sums, most in (
            (number(20), given((ONE, 2, 0, 1)), None), (number(400), given((ONE, 1, 0, 1)), None),
            (number(1), given((ONE, 6, 0, 400)), None),
            (number(0), given((ONE, 1, 5, 400)), None), (number(400, 6), given((ONE, 1, 0, 1)), None),
            (number(2, 3), given((ONE, 2, 0, 100)), None),
            (number(7), given((ONE, 3, 0, 1), (ONE, 2, 0, 1), (ONE, 1, 0, 1), (ONE, 0, 6, 1)), None),
            (number(2), given((ONE, 6, 0, 6), (ONE, 4, 0, 1)), None),
            (number(400, 6), given(), None), (number(0, 6), given((ONE, 0, 6, 400)), None),
            # One beyond.
            (number(20), given((ONE, 2, 0, 1), (ONE, 0, 0, 1)), 400),
            (number(400), given((ONE, 1, 0, 1), ((0, 1), 0, 3, 1)), 400),
            (number(21), given((ONE, 2, 0, 1)), 400),
            (number(2), given((ONE, 6, 0, 6), (ONE, 4, 0, 1), (ONE, 0, 0, 1)), 400),
            (number(400), given((ONE, 6, 0, 1)), 400), (number(2), given(((0, 1), 1, 0, 201)), 400),
            (number(201), given((ONE, 1, 0, 2)), 400),
            (number(1, 2), given((ONE, 3, 1, 1)), 6), (number(1, 6), given((ONE, 1, 1, 1)), 6),
            (number(1, 6), given((ONE, 0, 1, 9), ((0, 1), 1, 1, 1)), 6),
            (number(1, 3), given((ONE, 3, 0, 1)), 6), (number(399, 6), given((ONE, 1, 0, 1)), None),
            # LONG is looked at first.
            (number(21, 6), given((ONE, 2, 0, 1)), 400), (number(201, 6), given((ONE, 1, 5, 2)), 400),
        ):
            with self.subTest(definition=len(definition[1][1]), sums=len(sums[1])):
                if most is None:
                    need_sum(BARE_GEAR, put_in(BARE_GEAR, "a", definition, sums))
                else:
                    need_refused(self, TooGreat, put_in, BARE_GEAR, "a", definition, sums, field=("most", most))
        # One PART of the DEFINITION that is too great is enough, with FRACTION 0, too.
        definition = ((), ((), ((ONE, ()), ((0, 1), (("b", ()),) * 4))))
        self.assertEqual(len(put_in(BARE_GEAR, "a", definition, given((ONE, 1, 2, 1)))[1]), 2)
        need_refused(self, TooGreat, put_in, BARE_GEAR, "a", definition, given((ONE, 1, 3, 1)), field=("most", 6))
        need_refused(self, TooGreat, put_in, BARE_GEAR, "a", definition, given((ONE, 2, 0, 1)), field=("most", 6))

    def test_within_seconds_at_the_bounds(self):
        start = time.perf_counter()
        free = (("x", "v", "up"), ("y", "v", "down"))
        definition = (("x", "y"), (
            free, tuple(((at + 1, 1), (("m", ("x", "k")), ("m", ("k", "l")), ("m", ("l", "y")))) for at in range(20))
        ))
        told = put_in(GEAR, "m", definition, (AB, (SUM[1][1],)))
        self.assertEqual(len(told[1]), 400)
        self.assertEqual(len(put_in(
            GEAR, "m", SQUARE, (AB, ((ONE, (("m", ("a", "k")), ("m", ("k", "l")), ("m", ("l", "b")))),) * 400),
        )[1]), 400)
        self.assertLess(time.perf_counter() - start, 10)

    def test_refusals_in_order(self):
        for thing in NO_GEARS:
            need_refused(self, BadGear, put_in, thing, "m", SQUARE, SUM)
            need_refused(self, BadGear, put_in, thing, None, None, None)
        for thing in NO_BOXES:
            for behind in ((SQUARE, SUM), (None, None)):
                held = need_refused(self, NoBox, put_in, GEAR, thing, *behind)
                self.assertIs(held.name, thing)
        for at, thing in enumerate(NO_DEFINITIONS):
            with self.subTest(at=at):
                need_refused(self, BadDefinition, put_in, GEAR, "m", thing, SUM)
                need_refused(self, BadDefinition, put_in, GEAR, "m", thing, None)
        for at, thing in enumerate(spoiled(SQUARE)):
            with self.subTest(spoiled=at):
                need_refused(self, BadDefinition, put_in, GEAR, "m", thing, SUM)
        for thing in NO_SUMS:
            need_refused(self, BadSum, put_in, GEAR, "m", SQUARE, thing)
            # What would be too great for another SUM.
            long = (("a", "b"), (AB, SUM[1] * 200))
            need_refused(self, BadSum, put_in, GEAR, "m", long, thing)

    def test_what_is_handed_in_stays(self):
        for things in (
            (GEAR, "m", [["a", "b"], [[], []]], SUM), (GEAR, ["m"], SQUARE, SUM), (GEAR, "m", SQUARE, [[], []]),
        ):
            before = copy.deepcopy(things)
            with self.assertRaises(Exception):
                put_in(*things)
            self.assertEqual(things, before)


class HasMove(unittest.TestCase):
    def need(self, wanted, gear, box, definition, number):
        names = ("gear", "box", "definition", "number")
        self.assertIs(need_same_by_name(self, has_move, names, (gear, box, definition, number)), wanted)

    def test_by_hand(self):
        up = (("a", "v", "up"), ("b", "v", "up"))
        down = (("a", "v", "down"), ("b", "v", "down"))
        g, h = (("g", ("a",)), ("g", ("b",))), (("h", ("a",)), ("h", ("b",)))
        for box, definition, wanted in (
            ("e", (("a", "b"), (up, ((ONE, g),))), True), ("e", (("b", "a"), (up, ((ONE, g),))), True),
            ("e", (("a", "b"), (up, ())), True), ("e", (("a", "b"), (up, ((ONE, (("e", ("a", "b")),)),))), True),
            ("e", (("a", "b"), (up, ((ONE, (("m", ("a", "k")), ("e", ("k", "b")))),))), False),
            ("f", (("a", "b"), (down, ((ONE, h),))), False), ("f", (("a", "b"), (down, ())), True),
            ("f", (("a", "b"), (down, ((ONE, (("f", ("a", "b")),)),))), True),
            ("f", (("b", "a"), (down, ((ONE, (("f", ("a", "b")),)),))), True),
            ("f", (("a", "b"), (down, ((ONE, (("f", ("a", "b")),)), (ONE, h)))), False),
        ):
            self.need(wanted, SUM_GEAR, box, definition, 0)

    def test_even_and_odd_sums(self):
        gear = (("v",), (
            ("a", (UP,), ()), ("b", (UP,), ()), ("c", (UP,), ()),
            ("x", (UP,) * 3, (((1, 0, 2), 1), ((1, 2, 0), 1), ((0, 2, 1), -1))),
        ))
        free = tuple((name, "v", "up") for name in "pqr")
        bare = (free, ((ONE, (("a", ("p",)), ("b", ("q",)), ("c", ("r",)))),))
        round_one = (free, tuple(
            (ONE, (("a", (one,)), ("b", (two,)), ("c", (three,)))) for one, two, three in ("pqr", "qrp", "rpq")
        ))
        for given, wanted in (
            (bare, (False, False, False)), (even(gear, bare, tuple("pqr")), (True, True, False)),
            (odd(gear, bare, tuple("pqr")), (False, True, True)), (round_one, (False, True, False)),
            (even(gear, bare, ("p", "q")), (True, False, False)), (even(gear, bare, ("q", "r")), (False, False, False)),
            (odd(gear, bare, ("q", "r")), (False, False, True)), ((free, ()), (True, True, True)),
        ):
            for number in range(3):
                self.need(wanted[number], gear, "x", (("p", "q", "r"), given), number)
        # NAMES in another order: it is their SLOTS that are MOVED.
        self.need(True, gear, "x", (("q", "r", "p"), even(gear, bare, ("q", "r"))), 0)
        self.need(False, gear, "x", (("r", "q", "p"), even(gear, bare, ("p", "r"))), 0)
        self.need(True, gear, "x", (("p", "q", "r"), even(gear, bare, ("p", "q"))), 0)

    def test_held_against_alike(self):
        rnd = random.Random(74)
        seen = {True: 0, False: 0}
        for box in ("e", "f", "q"):
            moves = [row[2] for row in SUM_GEAR[1] if row[0] == box][0]
            for _ in range(20):
                names, given = a_definition(rnd, SUM_GEAR, box, 3, 2)
                pairs = names if box != "q" else names[:2]
                if rnd.random() < 0.6:
                    given = rnd.choice([even, odd])(SUM_GEAR, given, pairs)
                    if box == "q" and rnd.random() < 0.7:
                        given = rnd.choice([even, odd])(SUM_GEAR, given, names[2:])
                for number, (order, sign) in enumerate(moves):
                    turned = renamed(SUM_GEAR, given, [(name, names[at]) for name, at in zip(names, order)])
                    same = plain(SUM_GEAR, turned) == plain(SUM_GEAR, scaled(SUM_GEAR, given, (sign, 1)))
                    seen[same] += 1
                    self.need(same, SUM_GEAR, box, (names, given), number)
        self.assertGreater(min(seen.values()), 20)

    def test_a_nought_box_and_one_without_slots(self):
        self.need(True, BARE_GEAR, "b", ((), ((), ((ONE, (("a", ()),)),))), 0)
        for number, wanted in enumerate((False, True, False)):
            self.need(wanted, BARE_GEAR, "c", ((), ((), ((ONE, (("a", ()),)),))), number)
            self.need(True, BARE_GEAR, "c", ((), ((), ((ONE, (("c", ()),)),))), number)
            self.need(True, BARE_GEAR, "c", ((), ((), ())), number)
        free = (("a", "v", "up"), ("b", "w", "down"))
        self.need(True, GEAR, "n", (("a", "b"), (free, ())), 0)
        self.need(True, GEAR, "n", (("a", "b"), (free, ((ONE, (("n", ("a", "b")),)),))), 0)
        gear = (("v",), (("k", (UP,), ()), ("n", (UP,), (((0,), -1),))))
        self.need(False, gear, "n", (("a",), ((("a", "v", "up"),), ((ONE, (("k", ("a",)),)),))), 0)

    def test_bad_number(self):
        free = (("a", "v", "up"), ("b", "v", "up"))
        definition = (("a", "b"), (free, ()))
        for thing in (*NOTHINGS, 1, 2, -1, 10 ** 30, "0", (0,), Fraction(0), Fraction(1)):
            need_refused(self, BadNumber, has_move, GEAR, "e", definition, thing)
        for thing in (0, -1, None):
            need_refused(self, BadNumber, has_move, GEAR, "m", SQUARE, thing)
        # Ahead of TooGreat.
        heavy = ((), ((), ((ONE, (("c", ()),) * 6),)))
        need_refused(self, BadNumber, has_move, BARE_GEAR, "b", heavy, 1)
        need_refused(self, BadNumber, has_move, BARE_GEAR, "a", heavy, 0)

    def test_too_great(self):
        for parts in (((ONE, (("c", ()),) * 6),), ((ONE, ()), ((0, 1), (("c", ()),) * 6))):
            need_refused(self, TooGreat, has_move, BARE_GEAR, "b", ((), ((), parts)), 0, field=("most", 5000))
            need_refused(self, TooGreat, has_move, BARE_GEAR, "c", ((), ((), parts)), 2, field=("most", 5000))
        self.need(True, BARE_GEAR, "b", ((), ((), ((ONE, (("c", ()),) * 5),))), 0)

    def test_refusals_in_order(self):
        up = (("a", "v", "up"), ("b", "v", "up"))
        for thing in NO_GEARS:
            need_refused(self, BadGear, has_move, thing, "e", (("a", "b"), (up, ())), 0)
            need_refused(self, BadGear, has_move, thing, None, None, None)
        for thing in NO_BOXES:
            for behind in (((("a", "b"), (up, ())), 0), (None, None)):
                held = need_refused(self, NoBox, has_move, GEAR, thing, *behind)
                self.assertIs(held.name, thing)
        for at, thing in enumerate(NO_DEFINITIONS):
            with self.subTest(at=at):
                need_refused(self, BadDefinition, has_move, GEAR, "m", thing, 0)
                need_refused(self, BadDefinition, has_move, GEAR, "m", thing, None)
        need_refused(self, BadDefinition, has_move, GEAR, "e", SQUARE, 0)


if __name__ == "__main__":
    unittest.main()
