"""Promises 6 and 7 as slotsure.sums tells them: SUMS, the PLAIN form, added, scaled, multiplied."""

import copy
import itertools
import random
import time
import unittest
from fractions import Fraction

from helper import (
    BARE_GEAR, GEAR, NOTHINGS, SMALL_GEAR, SUM_GEAR, a_sum, brute_worth, is_nought, names_of, need_refused,
    need_same_by_name, normal, put, shortened, some_arrays, spoiled, tellings,
)
from slotsure.errors import BadGear, BadNumber, BadSum, TooGreat, Unfit
from slotsure.sums import added, multiplied, need_sum, plain, scaled

AB = (("a", "v", "up"), ("b", "v", "down"))
STRAIGHT = ((2, 3), (("m", ("a", "b")),))
ROUND = ((-1, 2), (("m", ("a", "c")), ("m", ("c", "b"))))
SUM = (AB, (STRAIGHT, ROUND))
HEAVY_TERM = (("c", ()),) * 6

FREES = [
    (),
    (("a", "v", "up"),),
    AB,
    (("a", "v", "up"), ("b", "v", "up"), ("c", "v", "down")),
    (("a", "v", "down"), ("c", "v", "up"), ("d", "w", "up"), ("zz", "w", "down")),
]

SUMS = [
    ((), ()),
    (AB, ()),
    SUM,
    ((), (((1, 1), ()),)),
    ((), (((0, 1), ()), ((0, 1), (("s", ()),)), ((-7, 2 ** 70), (("m", ("a", "a")),)))),
    (AB, (STRAIGHT,) * 400),
    (AB, (((0, 1), STRAIGHT[1]), STRAIGHT, STRAIGHT, ((-2, 3), STRAIGHT[1]))),
    ((("a", "v", "down"), ("b", "w", "up")), ()),
    ((("a", "v", "down"), ("b", "w", "down")), (((1, 2), (("t", ("a", "b")),)),)),
]

NO_SUMS = [
    # No pair of tuples.
    (), (AB,), (AB, (), ()), [AB, ()], (list(AB), ()), (AB, []), (AB, None), (None, ()), "ab", (AB, STRAIGHT), AB,
    # FREE that doesn't rise, names alike, SPACES and SIDES that are none, no NAMES.
    ((AB[1], AB[0]), ()), ((AB[0], AB[0]), ()), ((("a", "v", "down"), ("a", "v", "up")), ()),
    ((("a", "v", "up"), ("a", "w", "up")), ()),
    ((("a", "x", "up"),), ()), ((("a", "v", "over"),), ()), ((("a", "up", "v"),), ()), ((("A", "v", "up"),), ()),
    ((("", "v", "up"),), ()),
    ((("a", "v"),), ()), ((("a", "v", "up", "up"),), ()), ((["a", "v", "up"],), ()), (("a",), ()), (("avu",), ()),
    (("a", "v", "up"), ()),
    ((("abcdefghi", "v", "up"),), ()), (((["a"], "v", "up"),), ()), ((("a", ["v"], "up"),), ()),
    ((("a", "v", {}),), ()),
    ((("aa", "v", "up"), ("a", "v", "up")), ()), ((("a", "v", "up"), ("c", "v", "up"), ("b", "v", "up")), ()),
    # Too many PARTS.
    (AB, (STRAIGHT,) * 401), ((), (((0, 1), ()),) * 401),
    # No pairs, no FRACTIONS.
    (AB, (STRAIGHT[1],)), (AB, ((STRAIGHT[1], (1, 1)),)), (AB, ((*STRAIGHT, 1),)), (AB, ([(1, 1), STRAIGHT[1]],)),
    (AB, ((),)),
    (AB, (((2, 4), STRAIGHT[1]),)), (AB, (((0, 2), STRAIGHT[1]),)), (AB, (((1, 0), STRAIGHT[1]),)),
    (AB, (((1, -2), STRAIGHT[1]),)),
    (AB, ((1, STRAIGHT[1]),)), (AB, (((1, True), STRAIGHT[1]),)), (AB, (([1, 2], STRAIGHT[1]),)),
    (AB, ((Fraction(1), STRAIGHT[1]),)),
    # No TERMS.
    (AB, (((1, 1), "m"),)), (AB, (((1, 1), [("m", ("a", "b"))]),)), (AB, (((1, 1), (["m", ("a", "b")],)),)),
    (AB, (((1, 1), (("x", ("a", "b")),)),)), (AB, (((1, 1), (("m", ("a", "b")),) + (("s", ()),) * 6),)),
    (AB, (((1, 1), (("m", ("a", "b")), ("m", ("a", "b")))),)), (AB, (((1, 1), (("m", ["a", "b"]),)),)),
    # FREE names that are others, stand elsewhere, or are JOINED.
    (AB, (((1, 1), ()),)), (AB, (((1, 1), (("m", ("b", "a")),)),)), (AB, (((1, 1), (("m", ("a", "c")),)),)),
    (AB, (((1, 1), (("e", ("a", "b")),)),)), (AB, (((1, 1), (("n", ("a", "b")),)),)),
    (AB, (((1, 1), (("m", ("a", "b")), ("e", ("c", "d")))),)),
    (AB, (((1, 1), (("m", ("a", "b")), ("m", ("b", "a")))),)), ((), (STRAIGHT,)), (AB[:1], (STRAIGHT,)),
    (AB, (STRAIGHT, ((1, 1), ()))),
    ((*AB, ("c", "v", "up")), (STRAIGHT,)), ((*AB, ("c", "v", "up")), (ROUND,)),
    (((("a", "w", "up"), AB[1])), (STRAIGHT,)),
    (AB, (STRAIGHT, ROUND, ((0, 1), (("m", ("c", "b")),)))),
]


def free_unlike(one, other):
    return tuple(sorted({row[0] for row in set(one[0]) ^ set(other[0])}))


class SumCase(unittest.TestCase):
    def need_told(self, gear, told):
        """Needs what is told to be a SUM, of tuples throughout."""
        self.assertIsNone(need_sum(gear, told))

    def need_refused_by_all(self, kind, gear, given):
        need_refused(self, kind, need_sum, gear, given)
        need_refused(self, kind, plain, gear, given)
        need_refused(self, kind, added, gear, given, given)
        need_refused(self, kind, scaled, gear, given, None)
        need_refused(self, kind, multiplied, gear, given, None)


class NeedSum(SumCase):
    def test_sums(self):
        for at, given in enumerate(SUMS):
            with self.subTest(at=at):
                self.assertIsNone(need_same_by_name(self, need_sum, ("gear", "given"), (GEAR, given)))
        self.assertIsNone(need_sum(SMALL_GEAR, ((), (((1, 2), ()),))))
        self.assertIsNone(need_sum(SMALL_GEAR, ((("q", "a", "up"),), ())))

    def test_sums_made_at_random(self):
        rnd = random.Random(10)
        for free in FREES:
            for many in (0, 1, 5):
                self.assertIsNone(need_sum(SUM_GEAR, a_sum(rnd, SUM_GEAR, free, 5, many)))

    def test_what_is_otherwise(self):
        for at, thing in enumerate([*NO_SUMS, *NOTHINGS]):
            with self.subTest(at=at):
                self.need_refused_by_all(BadSum, GEAR, thing)
                for call in (added, multiplied):
                    need_refused(self, BadSum, call, GEAR, SUM, thing)
                    need_refused(self, BadSum, call, GEAR, thing, ((), ()))

    def test_things_of_any_kind_at_each_place(self):
        for number, thing in enumerate(spoiled(SUM)):
            with self.subTest(number=number):
                need_refused(self, BadSum, need_sum, GEAR, thing)

    def test_one_less_of_each_pair_and_triple(self):
        ways = ((), (0,), (0, 0), (1, 0), (1, 0, 0), (1, 0, 1), (1, 0, 1, 0), (1, 1, 1), (1, 1, 1, 0, 1))
        for thing in shortened(SUM, ways):
            need_refused(self, BadSum, need_sum, GEAR, thing)

    def test_a_wrong_part_behind_many(self):
        for part in (((1, 1), ()), ((2, 2), STRAIGHT[1]), None):
            need_refused(self, BadSum, need_sum, GEAR, (AB, (STRAIGHT,) * 399 + (part,)))

    def test_bad_gear_ahead(self):
        for gear in (*NOTHINGS, (("b", "a"), ()), put(GEAR, (1, 0, 1), [])):
            self.need_refused_by_all(BadGear, gear, SUM)
            self.need_refused_by_all(BadGear, gear, None)

    def test_what_is_handed_in_stays_where_it_is_refused(self):
        for thing in ([AB, []], (AB, [[[1, 2], []]]), ([["b", "v", "up"], "a"], ())):
            before = copy.deepcopy(thing)
            self.need_refused_by_all(BadSum, GEAR, thing)
            self.assertEqual(thing, before)


class Plain(SumCase):
    def need_plain(self, gear, given):
        """Needs it to be what 6 tells, as far as can be told without the FORMS, and tells it."""
        told = need_same_by_name(self, plain, ("gear", "given"), (gear, given))
        self.need_told(gear, told)
        free, parts = told
        self.assertEqual(free, given[0])
        terms = [term for _, term in parts]
        self.assertEqual(terms, sorted(set(terms)))
        self.assertNotIn((0, 1), [share for share, _ in parts])
        self.assertEqual(plain(gear, told), told)
        # By TELLINGS: each PART that isn't NOUGHT goes to just one of the told TERMS or comes to 0 with others.
        left = {}
        for share, term in given[1]:
            if is_nought(gear, term):
                continue
            for key in left:
                signs = [sign for sign in (1, -1) if (sign, normal(term)) in tellings(gear, key)]
                if signs:
                    left[key] += signs[0] * Fraction(*share)
                    break
            else:
                left[term] = Fraction(*share)
        left = {term: share for term, share in left.items() if share != 0}
        self.assertEqual(len(left), len(parts))
        for term, share in left.items():
            signs = [
                (sign, found) for (found, other) in parts for sign in (1, -1)
                if (sign, normal(other)) in tellings(gear, term)
            ]
            self.assertEqual(len(signs), 1)
            self.assertEqual(signs[0][0] * Fraction(*signs[0][1]), share)
        return told

    def test_by_hand(self):
        e, f = ("e", ("a", "b")), ("f", ("a", "b"))
        up, down = (("a", "v", "up"), ("b", "v", "up")), (("a", "v", "down"), ("b", "v", "down"))
        for given, wanted in (
            (((), ()), ()),
            ((AB, (STRAIGHT, ((-2, 3), STRAIGHT[1]))), ()),
            ((AB, (((0, 1), STRAIGHT[1]),)), ()),
            ((AB, (((0, 1), STRAIGHT[1]), STRAIGHT)), (STRAIGHT,)),
            ((AB, (STRAIGHT, STRAIGHT)), (((4, 3), STRAIGHT[1]),)),
            (((), (((1, 2), ()), ((1, 3), ()))), (((5, 6), ()),)),
            (((), (((1, 2), (e, f)),)), ()),
            ((AB, (STRAIGHT, ((5, 1), (("m", ("a", "b")), ("e", ("c", "d")), ("f", ("d", "c")))))), (STRAIGHT,)),
        ):
            self.assertEqual(plain(GEAR, given), (given[0], wanted))
        ba = ("e", ("b", "a"))
        told = plain(GEAR, (up, (((1, 2), (e,)), ((1, 3), (ba,)))))
        self.assertEqual([share for share, _ in told[1]], [(5, 6)])
        self.assertEqual(plain(GEAR, (down, (((1, 2), (f,)), ((1, 2), (("f", ("b", "a")),))))), (down, ()))
        told = plain(GEAR, (down, (((1, 2), (f,)), ((1, 3), (("f", ("b", "a")),)))))
        self.assertIn(told[1], ((((1, 6), (f,)),), (((-1, 6), (("f", ("b", "a")),)),)))

    def test_many_sums(self):
        rnd = random.Random(11)
        for free in FREES:
            for many in (0, 1, 3, 6, 9):
                self.need_plain(SUM_GEAR, a_sum(rnd, SUM_GEAR, free, 4, many))
        self.need_plain(GEAR, (AB, (STRAIGHT, ROUND) * 200))

    def test_the_same_worth(self):
        rnd = random.Random(12)
        for free in FREES:
            given = a_sum(rnd, SUM_GEAR, free, 4, 6)
            sizes = {"v": 2, "w": 2}
            arrays = some_arrays(rnd, SUM_GEAR, sizes)
            self.assertEqual(
                brute_worth(SUM_GEAR, sizes, arrays, given),
                brute_worth(SUM_GEAR, sizes, arrays, plain(SUM_GEAR, given)),
            )

    def test_the_same_of_parts_turned_about_and_told_otherwise(self):
        other = (AB, (((-1, 2), (("m", ("zz", "b")), ("m", ("a", "zz")))), STRAIGHT))
        self.assertEqual(plain(GEAR, other), plain(GEAR, SUM))
        self.assertEqual(len(plain(GEAR, SUM)[1]), 2)

    def test_too_great_of_any_part(self):
        light, heavy = ((1, 1), (("a", ()),)), ((1, 1), HEAVY_TERM)
        for parts in (
            (heavy,), (light, heavy), (heavy, light), (((0, 1), HEAVY_TERM),), (light, ((0, 1), HEAVY_TERM)),
            (heavy, ((-1, 1), HEAVY_TERM)), (light,) * 399 + (((0, 1), HEAVY_TERM),),
        ):
            need_refused(self, TooGreat, plain, BARE_GEAR, ((), parts), field=("most", 5000))
            self.assertIsNone(need_sum(BARE_GEAR, ((), parts)))
        self.assertEqual(plain(BARE_GEAR, ((), (light, ((1, 1), HEAVY_TERM[1:])))), ((), (light,)))
        need_refused(self, BadSum, plain, BARE_GEAR, ((), (((1, 1), HEAVY_TERM), None)))

    def test_within_seconds_of_many_parts(self):
        rnd = random.Random(13)
        given = a_sum(rnd, SUM_GEAR, AB, 6, 400)
        start = time.perf_counter()
        plain(SUM_GEAR, given)
        self.assertLess(time.perf_counter() - start, 20)


class AddedAndScaled(SumCase):
    def test_added(self):
        rnd = random.Random(14)
        for free in FREES:
            for many in (0, 1, 4):
                one, other = a_sum(rnd, SUM_GEAR, free, 4, many), a_sum(rnd, SUM_GEAR, free, 4, 3)
                told = need_same_by_name(self, added, ("gear", "one", "other"), (SUM_GEAR, one, other))
                self.need_told(SUM_GEAR, told)
                self.assertEqual(told[0], free)
                self.assertEqual(sorted(told[1]), sorted(one[1] + other[1]))
        # Nothing is made PLAIN.
        told = added(GEAR, SUM, SUM)
        self.assertEqual(sorted(told[1]), sorted(SUM[1] * 2))

    def test_added_of_other_free(self):
        up, down, out = ("a", "v", "up"), ("a", "v", "down"), ("a", "w", "up")
        b, c = ("b", "v", "up"), ("c", "v", "up")
        for one, other, wanted in (
            ((up,), (), ("a",)), ((), (up,), ("a",)), ((up,), (down,), ("a",)), ((up,), (out,), ("a",)),
            ((up, b), (up, c), ("b", "c")),
            ((b,), (up, c), ("a", "b", "c")), ((up, c), (b,), ("a", "b", "c")), ((up, b, c), (down, b), ("a", "c")),
            (AB, (("a", "v", "down"), ("b", "v", "up")), ("a", "b")), ((up,), (("aa", "v", "up"),), ("a", "aa")),
        ):
            need_refused(self, Unfit, added, GEAR, (one, ()), (other, ()), field=("others", wanted))
            self.assertEqual(wanted, free_unlike((one, ()), (other, ())))

    def test_added_too_long(self):
        half = (AB, (STRAIGHT,) * 200)
        self.assertEqual(len(added(GEAR, half, half)[1]), 400)
        self.assertEqual(len(added(GEAR, (AB, ()), (AB, (STRAIGHT,) * 400))[1]), 400)
        for one, other in ((201, 200), (200, 201), (400, 1), (1, 400), (400, 400)):
            need_refused(
                self, TooGreat, added, GEAR, (AB, (STRAIGHT,) * one), (AB, (((0, 1), STRAIGHT[1]),) * other),
                field=("most", 400),
            )
        # Unfit is looked at ahead of it.
        one, other = (AB, (STRAIGHT,) * 400), ((), (((1, 1), ()),) * 400)
        need_refused(self, Unfit, added, GEAR, one, other, field=("others", ("a", "b")))
        # A PART of great WEIGHT is added all the same.
        self.assertEqual(len(added(BARE_GEAR, ((), (((1, 1), HEAVY_TERM),)), ((), ()))[1]), 1)

    def test_scaled(self):
        rnd = random.Random(15)
        for free in FREES:
            given = a_sum(rnd, SUM_GEAR, free, 4, 5)
            for by in ((1, 1), (0, 1), (-3, 2), (2, 7), (2 ** 90, 3)):
                told = need_same_by_name(self, scaled, ("gear", "given", "by"), (SUM_GEAR, given, by))
                self.need_told(SUM_GEAR, told)
                self.assertEqual(told[0], free)
                wanted = [(Fraction(*share) * Fraction(*by), term) for share, term in given[1]]
                self.assertEqual(sorted((Fraction(*share), term) for share, term in told[1]), sorted(wanted))
        self.assertEqual(scaled(GEAR, SUM, (0, 1))[1], tuple(((0, 1), term) for _, term in SUM[1]))
        self.assertEqual(scaled(GEAR, (AB, ()), (1, 2)), (AB, ()))

    def test_scaled_by_no_fraction(self):
        for thing in (
            *NOTHINGS, 1, 2, (2, 4), (0, 2), (1, 0), (1, -1), [1, 2], (1,), (1, 2, 3), (True, 1), (1, 1.0),
            Fraction(1, 2),
        ):
            need_refused(self, BadNumber, scaled, GEAR, SUM, thing)
            need_refused(self, BadNumber, scaled, GEAR, ((), ()), thing)
            need_refused(self, BadSum, scaled, GEAR, thing, thing)
            need_refused(self, BadGear, scaled, None, thing, thing)


class Multiplied(SumCase):
    def need_product(self, rnd, gear, one, other):
        """Needs the product to be a SUM whose WORTH is what comes of the WORTHS of both."""
        told = need_same_by_name(self, multiplied, ("gear", "one", "other"), (gear, one, other))
        self.need_told(gear, told)
        self.assertEqual(len(told[1]), len(one[1]) * len(other[1]))
        both = [row[0] for row in one[0] if row[0] in [row[0] for row in other[0]]]
        free = tuple(sorted(row for row in one[0] + other[0] if row[0] not in both))
        self.assertEqual(told[0], free)
        shapes = [tuple(sorted(box for box, _ in term)) for _, term in told[1]]
        wanted = [tuple(sorted(box for box, _ in a + b)) for (_, a), (_, b) in itertools.product(one[1], other[1])]
        self.assertEqual(sorted(shapes), sorted(wanted))
        sizes = {"v": 2, "w": 2}
        arrays = some_arrays(rnd, gear, sizes)
        worths = {}
        left, right = brute_worth(gear, sizes, arrays, one), brute_worth(gear, sizes, arrays, other)
        for (row, share), (line, factor) in itertools.product(left.items(), right.items()):
            at = {name: number for (name, _, _), number in zip(one[0], row)}
            beside = {name: number for (name, _, _), number in zip(other[0], line)}
            if all(at[name] == beside[name] for name in both):
                place = tuple({**at, **beside}[name] for name, _, _ in free)
                worths[place] = worths.get(place, 0) + share * factor
        worths = {place: worth for place, worth in worths.items() if worth != 0}
        self.assertEqual(brute_worth(gear, sizes, arrays, told), worths)
        return told

    def test_by_hand(self):
        bc = (("b", "v", "up"), ("c", "v", "down"))
        other = (bc, (((3, 1), (("m", ("b", "c")),)),))
        told = multiplied(GEAR, (AB, (STRAIGHT,)), other)
        self.assertEqual(told[0], (("a", "v", "up"), ("c", "v", "down")))
        self.assertEqual([(share, normal(tuple(sorted(term)))) for share, term in told[1]], [
            ((2, 1), normal((("m", ("a", "b")), ("m", ("b", "c"))))),
        ])
        self.assertEqual(multiplied(GEAR, SUM, ((), (((1, 1), ()),))), SUM)
        self.assertEqual(multiplied(GEAR, ((), (((1, 1), ()),)), SUM), SUM)
        self.assertEqual(multiplied(GEAR, SUM, ((), ())), (AB, ()))
        self.assertEqual(multiplied(GEAR, ((), ()), ((), ())), ((), ()))

    def test_all_free_names_joined(self):
        ba = (("a", "v", "down"), ("b", "v", "up"))
        told = multiplied(GEAR, (AB, (STRAIGHT,)), (ba, (((3, 1), (("m", ("b", "a")),)),)))
        self.assertEqual(told[0], ())
        self.assertEqual(len(set(names_of(told[1][0][1]))), 2)

    def test_names_that_would_meet_are_exchanged(self):
        rnd = random.Random(16)
        loop = (AB, (((1, 1), (("m", ("c", "c")), ("m", ("a", "b")))),))
        behind = (("b", "v", "up"), ("c", "v", "down"))
        for one, other in (
            # JOINED in both.
            (loop, ((("d", "v", "up"), ("e", "v", "down")), (((1, 1), (("m", ("c", "c")), ("m", ("d", "e")))),))),
            # JOINED in one, FREE in the other.
            (loop, ((("c", "v", "up"), ("e", "v", "down")), (((1, 1), (("m", ("c", "e")),)),))),
            # What is FREE in both is JOINED in neither.
            ((AB, (ROUND,)), (behind, (((1, 1), (("m", ("b", "c")),)),))),
            # Each is JOINED where the other has it FREE.
            (
                (AB, (((1, 1), (("m", ("a", "c")), ("m", ("c", "b")))),)),
                ((("c", "v", "up"), ("d", "v", "down")), (((1, 1), (("m", ("c", "a")), ("m", ("a", "d")))),)),
            ),
            # One JOINED name in the place of which the first new one is taken, too.
            (
                (AB, (((1, 1), (("q", ("c", "a", "d", "c")), ("m", ("d", "b")))),)),
                ((), (((1, 1), (("q", ("c", "d", "e", "f")), ("q", ("e", "f", "c", "d")))),)),
            ),
        ):
            self.need_product(rnd, GEAR, one, other)
            self.need_product(rnd, GEAR, other, one)

    def test_many_products(self):
        rnd = random.Random(17)
        flip = {"up": "down", "down": "up"}
        for free in FREES:
            for shared in range(len(free) + 1):
                rows = [(name, space, flip[side]) for name, space, side in free[:shared]]
                rows.extend([("k", "v", "up")] * (shared % 2))
                one, other = a_sum(rnd, SUM_GEAR, free, 3, 2), a_sum(rnd, SUM_GEAR, tuple(sorted(rows)), 3, 3)
                self.need_product(rnd, SUM_GEAR, one, other)

    def test_unfit(self):
        up, down, out, into = ("a", "v", "up"), ("a", "v", "down"), ("a", "w", "up"), ("a", "w", "down")
        for one, other, fits in (
            (up, up, False), (down, down, False), (up, out, False), (up, into, False), (down, out, False),
            (up, down, True),
            (down, up, True), (out, into, True), (out, down, False),
        ):
            if fits:
                self.assertEqual(multiplied(GEAR, ((one,), ()), ((other,), ())), ((), ()))
            else:
                need_refused(self, Unfit, multiplied, GEAR, ((one,), ()), ((other,), ()), field=("others", ("a",)))
        one = (("a", "v", "up"), ("b", "v", "up"), ("c", "v", "up"), ("d", "w", "down"), ("e", "v", "up"))
        other = (("a", "v", "down"), ("b", "v", "up"), ("d", "v", "up"), ("e", "w", "down"), ("f", "v", "up"))
        for first, second in ((one, other), (other, one)):
            need_refused(self, Unfit, multiplied, GEAR, (first, ()), (second, ()), field=("others", ("b", "d", "e")))

    def test_too_long_then_too_many_factors(self):
        def bare(factors, parts):
            return (), (((1, 1), (("a", ()),) * factors),) * parts

        for factors, parts, behind, others, most in (
            (3, 20, 3, 20, None), (0, 400, 6, 1, None), (6, 1, 0, 400, None), (1, 0, 6, 400, None),
            (6, 400, 6, 0, None),
            (3, 21, 3, 20, 400), (1, 400, 1, 2, 400), (0, 200, 0, 3, 400), (4, 1, 3, 1, 6), (6, 20, 1, 20, 6),
            (1, 1, 6, 1, 6),
            (4, 21, 3, 20, 400), (6, 400, 6, 400, 400),
        ):
            one, other = bare(factors, parts), bare(behind, others)
            with self.subTest(factors=factors, parts=parts, behind=behind, others=others):
                if most is None:
                    self.assertEqual(len(multiplied(BARE_GEAR, one, other)[1]), parts * others)
                else:
                    need_refused(self, TooGreat, multiplied, BARE_GEAR, one, other, field=("most", most))
        # One TERM of too many FACTORS is enough, also with 0; Unfit is looked at first.
        one = ((), (((1, 1), ()), ((0, 1), (("a", ()),) * 4)))
        need_refused(self, TooGreat, multiplied, BARE_GEAR, one, bare(3, 1), field=("most", 6))
        many = (AB, (((1, 1), (("m", ("a", "b")),) + (("s", ()),) * 5),) * 400)
        need_refused(self, Unfit, multiplied, GEAR, many, many, field=("others", ("a", "b")))

    def test_refusals_in_order(self):
        need_refused(self, BadGear, multiplied, None, None, None)
        need_refused(self, BadSum, multiplied, GEAR, None, SUM)
        need_refused(self, BadSum, multiplied, GEAR, SUM, None)
        need_refused(self, BadSum, multiplied, GEAR, SUM, (AB, (STRAIGHT,) * 401))


if __name__ == "__main__":
    unittest.main()
