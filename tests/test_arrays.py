"""Promise 8 as slotsure.arrays tells it: SIZES, ARRAYS, and the WORTH of a SUM."""

import copy
import itertools
import random
import time
import unittest
from fractions import Fraction

from helper import (
    BARE_GEAR, GEAR, NOTHINGS, SMALL_GEAR, SUM_GEAR, a_sum, few_arrays, need_refused, need_same_by_name, plain_worth,
    put, shortened, some_arrays, spoiled, told_arrays,
)
from slotsure.arrays import need_arrays, need_sizes, worth
from slotsure.errors import BadArrays, BadGear, BadSizes, BadSum, TooGreat
from slotsure.sums import need_sum

NO_GEARS = (*NOTHINGS, (), (("b", "a"), ()), [GEAR[0], GEAR[1]], put(GEAR, (1, 0, 1), []))
NO_SIZES = (
    *NOTHINGS, (), (2,), (2, 2, 2), [2, 2], (0, 2), (2, 0), (25, 2), (2, 25), (-1, 2), (True, 2), (2, True), (2, 2.0),
    ("2", "2"), (2, None), ((2, 2),), (2, (2,)), 2, {2: 2}, "22", (24, 10 ** 30), range(1, 3), (Fraction(2), 2),
)
NONE = ((),) * 8
AB = (("a", "v", "up"), ("b", "v", "down"))
ONE = (1, 1)


def with_rows(box, rows, gear=GEAR):
    """ARRAYS of which this BOX alone has ROWS."""
    return tuple(rows if name == box else () for name, _, _ in gear[1])


# By SIZES (3, 2).
ARRAYS = (
    (((0, 1), (1, 2)), ((1, 0), (1, 2)), ((2, 2), (-3, 1))),
    (((0, 2), (5, 7)), ((2, 0), (-5, 7))),
    (((0, 0), ONE), ((1, 2), (2, 1)), ((2, 1), (-1, 10 ** 40))),
    (),
    (((0, 1, 0, 2), ONE), ((0, 1, 2, 0), (-1, 1)), ((1, 0, 0, 2), (-1, 1)), ((1, 0, 2, 0), ONE)),
    (((0, 0, 1), (2, 3)), ((0, 1, 0), (2, 3)), ((1, 0, 0), (2, 3)), ((1, 1, 1), (1, 9))),
    (((), (10 ** 400 + 1, 10 ** 400)),),
    (((0, 1), (-1, 3)), ((2, 0), (4, 1))),
)


class NeedSizes(unittest.TestCase):
    def test_all_sizes(self):
        for size in range(1, 25):
            self.assertIsNone(need_sizes(SMALL_GEAR, (size,)))
            self.assertIsNone(need_same_by_name(self, need_sizes, ("gear", "sizes"), (GEAR, (size, 25 - size))))
        self.assertIsNone(need_sizes((("a", "b", "c"), ()), (1, 24, 7)))

    def test_what_is_otherwise(self):
        for at, thing in enumerate(NO_SIZES):
            with self.subTest(at=at):
                need_refused(self, BadSizes, need_sizes, GEAR, thing)
        for thing in (0, 25, True, -1, None, "1", (1,), 1.0):
            need_refused(self, BadSizes, need_sizes, SMALL_GEAR, (thing,))
        for at, thing in enumerate(spoiled((2, 3))):
            with self.subTest(spoiled=at):
                need_refused(self, BadSizes, need_sizes, GEAR, thing)

    def test_bad_gear_ahead(self):
        for at, gear in enumerate(NO_GEARS):
            with self.subTest(at=at):
                need_refused(self, BadGear, need_sizes, gear, (2, 2))
                need_refused(self, BadGear, need_sizes, gear, None)


class NeedArrays(unittest.TestCase):
    def need_bad(self, sizes, arrays, gear=GEAR):
        need_refused(self, BadArrays, need_arrays, gear, sizes, arrays)
        need_refused(self, BadArrays, worth, gear, sizes, arrays, ((), ()))

    def test_by_hand(self):
        names = ("gear", "sizes", "arrays")
        self.assertIsNone(need_same_by_name(self, need_arrays, names, (GEAR, (3, 2), ARRAYS)))
        self.assertIsNone(need_arrays(GEAR, (24, 24), ARRAYS))
        self.assertIsNone(need_arrays(GEAR, (1, 1), NONE))
        self.assertIsNone(need_arrays(SMALL_GEAR, (1,), ()))
        self.assertIsNone(need_arrays(BARE_GEAR, (1,), ((((), (-1, 2)),), (((), (7, 1)),), ())))

    def test_none_and_four_hundred_rows(self):
        places = list(itertools.product(range(24), repeat=2))
        for many in (0, 1, 399, 400):
            rows = tuple((row, (at + 1, 1)) for at, row in enumerate(places[:many]))
            self.assertIsNone(need_arrays(GEAR, (24, 1), with_rows("m", rows)))
        self.need_bad((24, 1), with_rows("m", tuple((row, ONE) for row in places[:401])))
        self.need_bad((24, 1), with_rows("m", tuple((row, ONE) for row in places)))

    def test_arrays_that_keep_the_moves(self):
        rnd = random.Random(30)
        for sizes in ((1, 1), (2, 2), (2, 3), (24, 24)):
            for many in (0, 1, 5):
                self.assertIsNone(need_arrays(GEAR, sizes, few_arrays(rnd, GEAR, sizes, many)))
        told = told_arrays(GEAR, some_arrays(rnd, GEAR, {"v": 2, "w": 2}))
        self.assertIsNone(need_arrays(GEAR, (2, 2), told))

    def test_one_thing_for_each_box(self):
        for arrays in (NONE[1:], NONE + ((),), (), ARRAYS[:-1], ARRAYS + ((),), list(ARRAYS), (ARRAYS,)):
            self.need_bad((3, 2), arrays)

    def test_rows_that_do_not_rise(self):
        for rows in (
            (((0, 1), ONE), ((0, 0), ONE)), (((0, 1), ONE), ((0, 1), ONE)), (((0, 1), ONE), ((0, 1), (2, 1))),
            (((0, 1), (2, 1)), ((0, 1), ONE)), (((1, 0), ONE), ((0, 1), ONE)),
            (((0, 0), ONE), ((1, 1), ONE), ((0, 2), ONE)),
        ):
            self.need_bad((3, 2), with_rows("m", rows))
        self.need_bad((3, 2), with_rows("s", (((), ONE), ((), ONE))))
        self.need_bad((3, 2), with_rows("s", (((), ONE), ((), (2, 1)))))

    def test_rows_that_are_none(self):
        for row in (
            (3, 0), (0, 3), (-1, 0), (0, -1), (True, 0), (0, True), (0,), (0, 0, 0), (), [0, 0], 0, "00", None,
            (0, "0"), (0.0, 0), ((0, 0),), (0, None), (10 ** 30, 0), (Fraction(1), 0),
        ):
            self.need_bad((3, 2), with_rows("m", ((row, ONE),)))
        self.need_bad((3, 2), with_rows("t", (((0, 2), ONE),)))
        self.need_bad((2, 3), with_rows("t", (((2, 0), ONE),)))
        self.assertIsNone(need_arrays(GEAR, (2, 3), with_rows("t", (((1, 2), ONE),))))
        self.need_bad((3, 2), with_rows("s", (((0,), ONE),)))
        self.need_bad((3, 2), with_rows("s", ((0, ONE),)))

    def test_fractions_that_are_none(self):
        for fraction in (
            (0, 1), (2, 4), (0, 2), (1, 0), (1, -1), (-2, 2), (True, 1), (1, True), 1, [1, 1], (1,), (1, 1, 1), None,
            (1.0, 1), Fraction(1), "1/1", ((1, 1), 1),
        ):
            self.need_bad((3, 2), with_rows("m", (((0, 0), fraction),)))

    def test_things_of_any_kind_at_each_place(self):
        for at, thing in enumerate(spoiled(ARRAYS)):
            # A BOX without ROWS may stand in any BOX's place, where no MOVE is hurt: so it may be an empty tuple.
            with self.subTest(at=at):
                self.need_bad((3, 2), thing)
        for way in ((), (0, 0), (0, 0, 0), (0, 0, 1), (5, 0, 0), (6, 0)):
            for thing in shortened(ARRAYS, (way,)):
                self.need_bad((3, 2), thing)

    def test_moves_that_are_not_kept(self):
        for box in (0, 1, 4, 5):
            rows = ARRAYS[box]
            for at, (row, (above, beneath)) in enumerate(rows):
                if len(set(row)) == 1:
                    continue
                # Left out, with the other SIGN, with another FRACTION above or beneath.
                self.need_bad((3, 2), put(ARRAYS, (box,), rows[:at] + rows[at + 1:]))
                for other in ((-above, beneath), (above + beneath, beneath), (above, beneath + 10)):
                    self.assertIsNone(need_arrays(GEAR, (3, 2), ARRAYS))
                    other = Fraction(*other).as_integer_ratio()
                    self.need_bad((3, 2), put(ARRAYS, (box, at), (row, other)))
        # A ROW that a MOVE with -1 makes of itself; a BOX that is NOUGHT.
        self.need_bad((3, 2), with_rows("f", (((1, 1), ONE),)))
        self.need_bad((3, 2), with_rows("q", (((0, 0, 1, 1), ONE),)))
        self.need_bad((3, 2), with_rows("n", (((0, 0), ONE),)))
        self.need_bad((1,), ((), (), (((), ONE),)), BARE_GEAR)
        self.assertIsNone(need_arrays(BARE_GEAR, (1,), ((), (((), ONE),), ())))
        # Each of the MOVES is looked at.
        gear = (("v",), (("a", (("v", "up"),) * 3, (((1, 0, 2), 1), ((0, 2, 1), -1))),))
        self.need_bad((2,), ((((0, 0, 1), ONE),),), gear)
        self.need_bad((2,), ((((0, 1, 0), ONE), ((1, 0, 0), ONE)),), gear)

    def test_refusals_in_order(self):
        for at, gear in enumerate(NO_GEARS):
            with self.subTest(at=at):
                need_refused(self, BadGear, need_arrays, gear, (3, 2), ARRAYS)
                need_refused(self, BadGear, need_arrays, gear, None, None)
        for at, thing in enumerate(NO_SIZES):
            with self.subTest(sizes=at):
                need_refused(self, BadSizes, need_arrays, GEAR, thing, ARRAYS)
                need_refused(self, BadSizes, need_arrays, GEAR, thing, None)
        need_refused(self, BadArrays, need_arrays, GEAR, (2, 2), ARRAYS)

    def test_what_is_handed_in_stays(self):
        thing = [[[[0, 0], [1, 1]]]] + [[] for _ in range(7)]
        before = copy.deepcopy(thing)
        self.need_bad((3, 2), thing)
        self.need_bad((3, 2), tuple(thing))
        self.assertEqual(thing, before)


class Worth(unittest.TestCase):
    def need_worth(self, gear, sizes, arrays, given):
        names = ("gear", "sizes", "arrays", "given")
        told = need_same_by_name(self, worth, names, (gear, sizes, arrays, given))
        self.assertIs(type(told), list)
        self.assertEqual(told, plain_worth(gear, sizes, arrays, given))
        self.assertEqual([row for row, _ in told], sorted({row for row, _ in told}))
        for row, fraction in told:
            self.assertIs(type(row), tuple)
            self.assertIs(type(fraction), tuple)
            self.assertEqual(fraction, Fraction(*fraction).as_integer_ratio())
            self.assertNotEqual(fraction[0], 0)
        return told

    def test_by_hand(self):
        for given, wanted in (
            (((), ()), []),
            (((), (((1, 2), ()), ((1, 3), ()))), [((), (5, 6))]),
            (((), (((1, 2), ()), ((-1, 2), ()))), []),
            (((), (((0, 1), ()),)), []),
            ((AB, ()), []),
            ((AB, ((ONE, (("m", ("a", "b")),)),)), list(ARRAYS[2])),
            # The trace, and the trace of the square.
            (((), ((ONE, (("m", ("a", "a")),)),)), [((), ONE)]),
            (((), ((ONE, (("m", ("a", "b")), ("m", ("b", "a")))),)), [((), (1 * 10 ** 40 - 4, 10 ** 40))]),
            # Nothing where 0 stands.
            (((("a", "v", "up"), ("b", "w", "down")), ((ONE, (("n", ("a", "b")),)),)), []),
        ):
            given = (given[0], tuple((Fraction(*share).as_integer_ratio(), term) for share, term in given[1]))
            wanted = [(row, Fraction(*share).as_integer_ratio()) for row, share in wanted]
            self.assertEqual(self.need_worth(GEAR, (3, 2), ARRAYS, given), wanted)

    def test_free_names_in_any_order_in_the_slots(self):
        term = (("t", ("c", "a")), ("m", ("b", "d")))
        free = (("a", "w", "down"), ("b", "v", "up"), ("c", "v", "down"), ("d", "v", "down"))
        told = self.need_worth(GEAR, (3, 2), ARRAYS, (free, ((ONE, term),)))
        wanted = sorted(
            ((a, b, c, d), (Fraction(*one) * Fraction(*other)).as_integer_ratio())
            for (c, a), one in ARRAYS[7] for (b, d), other in ARRAYS[2]
        )
        self.assertEqual(told, wanted)
        for order in itertools.permutations("abc"):
            free = tuple((name, "w", "up") for name in "abc")
            told = self.need_worth(GEAR, (3, 2), ARRAYS, (free, (((1, 2), (("r", order),)),)))
            wanted = [(tuple(row[order.index(name)] for name in "abc"), share) for row, share in ARRAYS[5]]
            self.assertEqual(told, sorted((row, (Fraction(*share) / 2).as_integer_ratio()) for row, share in wanted))

    def test_many_sums_held_against_a_plain_summing(self):
        rnd = random.Random(31)
        frees = (
            (), AB, (("a", "v", "up"), ("b", "v", "up"), ("c", "v", "down")),
            (("a", "v", "down"), ("c", "v", "up"), ("d", "w", "up"), ("zz", "w", "down")),
        )
        for free in frees:
            for sizes in ((1, 1), (2, 2), (2, 1), (1, 3), (3, 2)):
                for many in (1, 4, 12):
                    arrays = few_arrays(rnd, SUM_GEAR, sizes, many)
                    given = a_sum(rnd, SUM_GEAR, free, 4, 4)
                    self.need_worth(SUM_GEAR, sizes, arrays, given)

    def test_names_joined_within_one_factor_and_between_factors(self):
        rnd = random.Random(32)
        terms = (
            (("m", ("a", "a")),), (("q", ("a", "b", "b", "a")),),
            (("q", ("a", "b", "c", "d")), ("q", ("d", "c", "b", "a"))),
            (("m", ("a", "b")), ("m", ("b", "c")), ("m", ("c", "a"))),
            (("m", ("a", "a")), ("m", ("b", "b")), ("s", ())),
            (("e", ("a", "b")), ("f", ("b", "a"))), (("s", ()), ("s", ())),
            (("q", ("a", "b", "a", "c")), ("m", ("c", "b"))),
        )
        for sizes in ((1, 1), (2, 2), (3, 1)):
            arrays = told_arrays(GEAR, some_arrays(rnd, GEAR, dict(zip(GEAR[0], sizes))))
            for term in terms:
                self.need_worth(GEAR, sizes, arrays, ((), (((2, 3), term),)))
            self.need_worth(GEAR, sizes, arrays, ((), tuple(((at - 3, 1), term) for at, term in enumerate(terms))))
        free = (("a", "v", "up"), ("d", "v", "down"))
        given = (free, ((ONE, (("q", ("a", "b", "b", "d")),)), (ONE, (("q", ("b", "a", "d", "b")),))))
        self.need_worth(GEAR, (3, 1), few_arrays(rnd, GEAR, (3, 1), 20), given)

    def test_parts_that_cancel(self):
        straight, turned = (("e", ("a", "b")),), (("e", ("b", "a")),)
        free = (("a", "v", "up"), ("b", "v", "up"))
        self.assertEqual(worth(GEAR, (3, 2), ARRAYS, (free, ((ONE, straight), ((-1, 1), turned)))), [])
        self.assertNotEqual(worth(GEAR, (3, 2), ARRAYS, (free, ((ONE, straight), (ONE, turned)))), [])
        # At some ROWS alone.
        odd = (("m", ("a", "b")),)
        given = (AB, ((ONE, odd), ((-1, 2), (("m", ("a", "b")), ("s", ())))))
        arrays = put(ARRAYS, (6,), (((), (2, 1)),))
        self.assertEqual(self.need_worth(GEAR, (3, 2), arrays, given), [])

    def test_new_lists_each_time(self):
        given = (AB, ((ONE, (("m", ("a", "b")),)),))
        first = worth(GEAR, (3, 2), ARRAYS, given)
        before = list(first)
        first.clear()
        self.assertEqual(worth(GEAR, (3, 2), ARRAYS, given), before)

    def test_great_sizes_and_many_names_within_seconds(self):
        rnd = random.Random(33)
        start = time.perf_counter()
        sizes = (24, 24)
        arrays = few_arrays(rnd, GEAR, sizes, 3)
        names = [one + other for one in "abcd" for other in "abcdef"]
        # 24 FREE names; then as many as can be JOINED.
        free = tuple(sorted((name, "v", "up" if at % 4 < 2 else "down") for at, name in enumerate(names)))
        term = tuple(("q", tuple(names[4 * at:4 * at + 4])) for at in range(6))
        arrays = put(arrays, (4,), tuple(
            (row, (1 if at in (0, 3) else -1, 1))
            for at, row in enumerate(((2, 9, 4, 23), (2, 9, 23, 4), (9, 2, 4, 23), (9, 2, 23, 4)))
        ))
        given = (free, ((ONE, term),))
        need_sum(GEAR, given)
        told = worth(GEAR, sizes, arrays, given)
        self.assertEqual(len(told), 4 ** 6)
        one = arrays[4]
        at = {name: number for name, number in zip(names, [n for _ in range(6) for n in one[1][0]])}
        self.assertEqual(dict(told)[tuple(at[name] for name, _, _ in free)], (1, 1))
        ups, downs = names[:12], names[:12]
        term = tuple(("q", (ups[2 * at], ups[2 * at + 1], downs[2 * at - 2], downs[2 * at - 1])) for at in range(6))
        arrays = put(arrays, (4,), (
            ((3, 8, 3, 8), ONE), ((3, 8, 8, 3), (-1, 1)), ((8, 3, 3, 8), (-1, 1)), ((8, 3, 8, 3), ONE),
        ))
        # Six times the same 2 by 2 thing: 64 ways, each worth 1.
        self.assertEqual(worth(GEAR, sizes, arrays, ((), ((ONE, term),))), [((), (64, 1))])
        self.assertLess(time.perf_counter() - start, 10)

    def test_just_two_hundred_thousand_wide(self):
        rnd = random.Random(34)
        rows = tuple((row, (rnd.choice([1, -1, 3]), 2)) for row in list(itertools.product(range(24), repeat=2))[:400])
        bare = tuple((("s", ()),) * at for at in range(7))
        arrays = tuple(
            rows if box == "m" else rows[:0] if box != "s" else (((), ONE),) for box, _, _ in GEAR[1]
        )
        pair = (("m", ("a", "b")), ("m", ("c", "d")))
        free = (("a", "v", "up"), ("b", "v", "down"), ("c", "v", "up"), ("d", "v", "down"))
        start = time.perf_counter()
        # 160,000, and 100 times 400.
        told = worth(GEAR, (24, 1), arrays, ((), (
            (ONE, (("m", ("a", "b")), ("m", ("b", "a")))),) + ((ONE, (("m", ("a", "a")),)),) * 100,
        ))
        self.assertEqual(len(told), 1)
        self.assertEqual(len(worth(GEAR, (24, 1), arrays, (free, ((ONE, pair),)))), 160000)
        self.assertLess(time.perf_counter() - start, 20)
        for extra in (bare[0], bare[3], (("m", ("x", "x")),)):
            for share in (ONE, (0, 1)):
                given = ((), (
                    (ONE, (("m", ("a", "b")), ("m", ("b", "a")))),) + (((0, 1), (("m", ("a", "a")),)),) * 100
                    + ((share, extra),),
                )
                need_refused(self, TooGreat, worth, GEAR, (24, 1), arrays, given, field=("most", 200000))
        # Each PART counts, also one that is 0, one whose FACTORS have no ROWS doesn't.
        given = ((), (((0, 1), (("m", ("a", "b")), ("m", ("b", "a")))),) * 2)
        need_refused(self, TooGreat, worth, GEAR, (24, 1), arrays, given, field=("most", 200000))
        given = ((), ((ONE, (("e", ("a", "b")), ("f", ("a", "b"))) + (("m", ("c", "c")),) * 0),) * 400)
        self.assertEqual(worth(GEAR, (24, 1), arrays, given), [])

    def test_a_box_without_rows_beside_great_ones(self):
        rows = tuple((row, ONE) for row in list(itertools.product(range(24), repeat=2))[:400])
        arrays = with_rows("m", rows)
        names = "abcdefghij"
        for at in range(6):
            term = [("m", (names[2 * k], names[2 * k + 1])) for k in range(5)]
            term.insert(at, ("s", ()))
            free = tuple((name, "v", "down" if k % 2 else "up") for k, name in enumerate(names))
            start = time.perf_counter()
            self.assertEqual(worth(GEAR, (24, 1), arrays, (free, ((ONE, tuple(term)),))), [])
            self.assertLess(time.perf_counter() - start, 1)
            need_refused(
                self, TooGreat, worth, GEAR, (24, 1), put(arrays, (6,), (((), ONE),)), (free, ((ONE, tuple(term)),)),
                field=("most", 200000),
            )

    def test_refusals_in_order(self):
        wide = ((), ((ONE, (("m", ("a", "a")), ("m", ("b", "b")), ("m", ("c", "c")))),) * 400)
        rows = tuple((row, ONE) for row in itertools.product(range(20), repeat=2))
        arrays = with_rows("m", rows)
        for thing in NO_GEARS:
            need_refused(self, BadGear, worth, thing, (20, 1), arrays, wide)
            need_refused(self, BadGear, worth, thing, None, None, None)
        for thing in NO_SIZES:
            need_refused(self, BadSizes, worth, GEAR, thing, arrays, wide)
            need_refused(self, BadSizes, worth, GEAR, thing, None, None)
        for thing in (*NOTHINGS, NONE[1:], put(arrays, (0,), (((0, 1), ONE),))):
            need_refused(self, BadArrays, worth, GEAR, (20, 1), thing, wide)
            need_refused(self, BadArrays, worth, GEAR, (20, 1), thing, None)
        for thing in (*NOTHINGS, (), (AB, []), (AB, ((ONE, ()),)), put(wide, (1, 399), None), (wide[0], wide[1] * 2)):
            need_refused(self, BadSum, worth, GEAR, (20, 1), arrays, thing)
        need_refused(self, TooGreat, worth, GEAR, (20, 1), arrays, wide, field=("most", 200000))


if __name__ == "__main__":
    unittest.main()
