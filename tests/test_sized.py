"""Promises 12 and 13 as slotsure.sized tells them: ALIKE AT told SIZES, and the LEAST SIZE."""

import itertools
import random
import time
import unittest
from fractions import Fraction

from helper import (
    BARE_GEAR, DOWN, GEAR, NOTHINGS, SUM_GEAR, UP, a_sum, a_term, brute_group, brute_moved, few_arrays, kinds_of,
    names_of, need_refused, need_same_by_name, need_witness, told_otherwise,
)
from slotsure.alike import alike, check_unlike
from slotsure.arrays import worth
from slotsure.errors import BadGear, BadSizes, BadSum, TooGreat, Unfit
from slotsure.forms import weight
from slotsure.joins import odd
from slotsure.sized import alike_at, least_size
from slotsure.sums import need_sum

NAMES = ("gear", "one", "other")
AB = (("a", "v", "up"), ("b", "v", "down"))
ONE = (1, 1)
STRAIGHT = ((2, 3), (("m", ("a", "b")),))
SUM = (AB, (STRAIGHT, ((-1, 2), (("m", ("a", "c")), ("m", ("c", "b"))))))
NO_GEARS = (*NOTHINGS, (), (("b", "a"), ()), [GEAR[0], GEAR[1]])
NO_SIZES = (*NOTHINGS, (), (2,), (2, 2, 2), [2, 2], (0, 2), (2, 25), (True, 2))
NO_SUMS = (*NOTHINGS, (), (AB,), (AB, []), (AB, (STRAIGHT,) * 401), (AB, (((2, 2), STRAIGHT[1]),)), (AB, ((ONE, ()),)))

# Four BOXES of one SLOT: made odd over all of them, a product is 0 at all lesser SIZES.
ODD_GEAR = (("v",), (
    ("a", (UP,), ()), ("b", (UP,), ()), ("c", (UP,), ()), ("d", (UP,), ()), ("s", (), ()), ("x", (UP,) * 4, ()),
))
# A GROUP of twelve; two of four and twenty.
GREAT_GEAR = (("v",), (
    ("a", (UP,) * 4, (((1, 0, 2, 3), 1), ((1, 2, 3, 0), 1))),
    ("b", (DOWN,) * 4, (((1, 0, 2, 3), 1), ((1, 2, 3, 0), 1))),
    ("c", (UP,) * 4, (((1, 2, 0, 3), 1), ((0, 2, 3, 1), 1))),
    ("s", (), ()),
))


def odd_of(many, behind=()):
    """The product of so many BOXES of one SLOT, and others, made odd over the names in those SLOTS."""
    names = tuple("pqrt"[:many])
    term = tuple((box, (name,)) for box, name in zip("abcd", names)) + behind
    free = tuple(sorted((name, "v", "up") for name in names_of(term)))
    return odd(ODD_GEAR, (free, ((ONE, term),)), names)


def polynomials(gear, sizes, one, other):
    """By ROWS of FREE's names: what stands before each product of unknowns in ONE less OTHER."""
    size_of = dict(zip(gear[0], sizes))
    found = {}
    for given, by in ((one, 1), (other, -1)):
        for (a, b), term in given[1]:
            limits = {}
            for box, names in term:
                for name, (space, _) in zip(names, kinds_of(gear, box)):
                    limits[name] = size_of[space]
            for numbers in itertools.product(*[range(limit) for limit in limits.values()]):
                at = dict(zip(limits, numbers))
                share = Fraction(a, b) * by
                product = []
                for box, names in term:
                    row = tuple(at[name] for name in names)
                    turned = [(brute_moved(row, order), sign) for order, sign in brute_group(gear, box)]
                    if (row, -1) in turned:
                        share = 0
                    least, sign = min(turned)
                    share *= sign
                    product.append((box, least))
                place = tuple(at[name] for name, _, _ in one[0])
                key = (place, tuple(sorted(product)))
                found[key] = found.get(key, 0) + share
    return {key: share for key, share in found.items() if share != 0}


class SizedCase(unittest.TestCase):
    def need_at(self, gear, sizes, one, other, wanted=None):
        """Needs what is told to be so by polynomials; tells whether they are ALIKE AT these SIZES."""
        things = (gear, sizes, one, other)
        told = need_same_by_name(self, alike_at, ("gear", "sizes", "one", "other"), things)
        same = not polynomials(gear, sizes, one, other)
        if wanted is not None:
            self.assertIs(same, wanted)
        if same:
            self.assertEqual(told, ("alike",))
            self.assertIs(type(told), tuple)
        else:
            self.assertIs(type(told), tuple)
            word, witness = told
            self.assertEqual(word, "unlike")
            need_witness(self, gear, one, other, witness, sizes)
            self.assertIs(check_unlike(gear, one, other, witness), True)
        return same

    def need_least(self, gear, one, other, wanted=None):
        told = need_same_by_name(self, least_size, NAMES, (gear, one, other))
        if alike(gear, one, other)[0] == "alike":
            self.assertIsNone(told)
            return
        self.assertIs(type(told), tuple)
        size, witness = told
        self.assertIs(type(size), int)
        if wanted is not None:
            self.assertEqual(size, wanted)
        need_witness(self, gear, one, other, witness, (size,) * len(gear[0]))
        self.assertEqual(alike_at(gear, (size,) * len(gear[0]), one, other)[0], "unlike")
        if size > 1:
            self.assertEqual(alike_at(gear, (size - 1,) * len(gear[0]), one, other), ("alike",))


class AlikeAt(SizedCase):
    def test_by_hand(self):
        two = (("a", "v", "up"), ("b", "v", "up"))
        down = (("a", "v", "down"), ("b", "v", "down"))
        e, turned = ("e", ("a", "b")), ("e", ("b", "a"))
        f = ("f", ("a", "b"))
        s, trace = ("s", ()), ("m", ("k", "k"))
        four = (*two, ("c", "v", "up"), ("d", "v", "down"))
        for sizes, one, other, wanted in (
            ((1, 1), ((), ()), ((), ()), True), ((1, 1), ((), ((ONE, ()),)), ((), ()), False),
            ((3, 2), SUM, SUM, True), ((3, 2), SUM, (AB, ()), False),
            # Where one number stands for all names, the trace of a square is the square of the trace.
            (
                (1, 1), ((), ((ONE, (("m", ("a", "b")), ("m", ("b", "a")))),)),
                ((), ((ONE, (trace, ("m", ("l", "l")))),)), True,
            ),
            (
                (2, 1), ((), ((ONE, (("m", ("a", "b")), ("m", ("b", "a")))),)),
                ((), ((ONE, (trace, ("m", ("l", "l")))),)), False,
            ),
            (
                (1, 9), ((), ((ONE, (("m", ("a", "b")), ("m", ("b", "a")))),)),
                ((), ((ONE, (trace, ("m", ("l", "l")))),)), True,
            ),
            # The GROUP ties entries, or makes them 0.
            ((2, 1), (two, ((ONE, (e,)),)), (two, ((ONE, (turned,)),)), True),
            ((1, 1), (down, ((ONE, (f,)),)), (down, ()), True), ((2, 1), (down, ((ONE, (f,)),)), (down, ()), False),
            ((2, 1), (down, ((ONE, (f,)),)), (down, (((-1, 1), (("f", ("b", "a")),)),)), True),
            ((2, 1), (down, ((ONE, (f,)),)), (down, ((ONE, (("f", ("b", "a")),)),)), False),
            (
                (3, 3), ((("a", "v", "up"), ("b", "w", "down")), ((ONE, (("n", ("a", "b")),)),)),
                ((("a", "v", "up"), ("b", "w", "down")), ()), True,
            ),
            # Powers.
            ((1, 1), ((), ((ONE, (s, s)),)), ((), ((ONE, (s,)),)), False),
            ((1, 1), ((), ((ONE, (s, s)),)), ((), ((ONE, (s, s)),)), True),
            # At SIZE 2 what is odd over three names is 0.
            ((2, 1), odd(GEAR, (four, ((ONE, (e, ("m", ("c", "d")))),)), tuple("abc")), (four, ()), True),
        ):
            self.need_at(GEAR, sizes, one, other, wanted)
            self.need_at(GEAR, sizes, other, one, wanted)

    def test_odd_over_some_names(self):
        for many in (1, 2, 3, 4):
            given = odd_of(many)
            for size in (1, 2, 3, 4):
                self.need_at(ODD_GEAR, (size,), given, (given[0], ()), size < many)

    def test_odd_over_three_names_of_two_boxes(self):
        gear = (("v",), (("i", (UP, DOWN), ()), ("m", (UP, DOWN), ())))
        square = (("m", ("a", "k")), ("m", ("k", "b")))
        self.need_at(gear, (2,), (AB, ((ONE, square),)), (AB, ((ONE, square[::-1]),)), True)
        term = (("m", ("a", "x")), ("m", ("p", "y")), ("i", ("q", "z")))
        free = tuple((name, "v", "up" if name in "apq" else "down") for name in "apqxyz")
        given = odd(gear, (free, ((ONE, term),)), ("a", "p", "q"))
        self.need_at(gear, (2,), given, (free, ()), True)
        self.need_at(gear, (3,), given, (free, ()), False)

    def test_spaces_of_unlike_sizes(self):
        gear = (("v", "w"), (("a", (UP,), ()), ("b", (UP,), ()), ("c", (("w", "up"),), ()), ("d", (("w", "up"),), ())))
        free = (("p", "v", "up"), ("q", "v", "up"))
        outer = (("k", "w", "up"), ("l", "w", "up"))
        one = odd(gear, (free, ((ONE, (("a", ("p",)), ("b", ("q",)))),)), ("p", "q"))
        other = odd(gear, (outer, ((ONE, (("c", ("k",)), ("d", ("l",)))),)), ("k", "l"))
        for sizes, alike_in_v, alike_in_w in (
            ((1, 1), True, True), ((1, 2), True, False), ((2, 1), False, True), ((3, 4), False, False),
        ):
            self.need_at(gear, sizes, one, (free, ()), alike_in_v)
            self.need_at(gear, sizes, other, (outer, ()), alike_in_w)

    def test_many_sums_held_against_polynomials(self):
        rnd = random.Random(60)
        frees = (
            (), (("a", "v", "up"),), AB, (("a", "v", "up"), ("b", "v", "up"), ("c", "v", "down")),
            (("a", "v", "down"), ("c", "v", "up"), ("d", "w", "up"), ("zz", "w", "down")),
        )
        seen = {True: 0, False: 0}
        for free in frees:
            for sizes in ((1, 1), (2, 1), (1, 2), (2, 2), (3, 1)):
                for _ in range(5):
                    one = a_sum(rnd, SUM_GEAR, free, 3, 3)
                    other = told_otherwise(rnd, SUM_GEAR, one)
                    if rnd.random() < 0.5:
                        other = (free, other[1][1:])
                    seen[self.need_at(SUM_GEAR, sizes, one, other)] += 1
        self.assertGreater(min(seen.values()), 20)

    def test_closed_terms_at_small_sizes(self):
        rnd = random.Random(61)
        seen = {True: 0, False: 0}
        gear = (("v",), (("e", (UP, UP), (((1, 0), 1),)), ("f", (DOWN, DOWN), (((1, 0), -1),)), ("m", (UP, DOWN), ())))
        while sum(seen.values()) < 60:
            one, other = (a_term(rnd, gear, 3, ()) for _ in range(2))
            if one is None or other is None:
                continue
            for size in (1, 2):
                seen[self.need_at(gear, (size,), ((), ((ONE, one),)), ((), ((ONE, other),)))] += 1
        self.assertGreater(min(seen.values()), 5)

    def test_alike_is_alike_at_all_sizes_and_then_by_any_arrays(self):
        rnd = random.Random(62)
        for _ in range(10):
            one = a_sum(rnd, SUM_GEAR, AB, 3, 3)
            other = told_otherwise(rnd, SUM_GEAR, one)
            for sizes in ((1, 1), (2, 2), (3, 1)):
                self.assertEqual(alike_at(SUM_GEAR, sizes, one, other), ("alike",))
        given = odd_of(3)
        arrays = few_arrays(rnd, ODD_GEAR, (2,), 5)
        self.assertEqual(worth(ODD_GEAR, (2,), arrays, given), [])

    def test_heavy_ones_are_not_refused(self):
        free = tuple((name, "v", "up") for name in "pqrt")
        term = (("a", tuple("wxyz")), ("b", tuple("wxyz")), ("c", tuple("pqrt")))
        self.assertGreater(weight(GREAT_GEAR, term), 5000)
        one, turned = (free, ((ONE, term),)), (free, ((ONE, term[:2] + (("c", tuple("qprt")),)),))
        need_refused(self, TooGreat, alike, GREAT_GEAR, one, (free, ()), field=("most", 5000))
        need_refused(self, TooGreat, least_size, GREAT_GEAR, one, (free, ()), field=("most", 5000))
        # Both together are too WIDE.
        need_refused(self, TooGreat, alike_at, GREAT_GEAR, (1,), one, turned, field=("most", 200000))
        self.assertFalse(self.need_at(GREAT_GEAR, (1,), one, (free, ())))
        self.assertFalse(self.need_at(GREAT_GEAR, (2,), one, (free, ())))


class LeastSize(SizedCase):
    def test_of_least_size_one_two_three_and_four(self):
        for many in (1, 2, 3, 4):
            given = odd_of(many)
            self.need_least(ODD_GEAR, given, (given[0], ()), many)
            self.need_least(ODD_GEAR, (given[0], ()), given, many)
        trace, other = ("m", ("k", "k")), ("m", ("l", "l"))
        square = (("m", ("a", "b")), ("m", ("b", "a")))
        self.need_least(GEAR, ((), ((ONE, square),)), ((), ((ONE, (trace, other)),)), 2)
        self.need_least(GEAR, ((), ((ONE, square),)), ((), ()), 1)
        down = (("a", "v", "down"), ("b", "v", "down"))
        self.need_least(GEAR, (down, ((ONE, (("f", ("a", "b")),)),)), (down, ()), 2)
        # Three SPACES: each gets the SIZE.
        gear = (("u", "v", "w"), (("a", (("w", "up"),), ()), ("b", (("w", "up"),), ())))
        free = (("p", "w", "up"), ("q", "w", "up"))
        self.need_least(gear, odd(gear, (free, ((ONE, (("a", ("p",)), ("b", ("q",)))),)), ("p", "q")), (free, ()), 2)

    def test_none_where_they_are_alike(self):
        rnd = random.Random(63)
        for free in ((), AB):
            one = a_sum(rnd, SUM_GEAR, free, 3, 4)
            self.assertIsNone(least_size(SUM_GEAR, one, told_otherwise(rnd, SUM_GEAR, one)))
        self.assertIsNone(least_size(GEAR, (AB, ()), (AB, ())))
        # 20,000 ways are passed at SIZE 6: no SIZES are asked.
        self.assertIsNone(least_size(SUM_GEAR, (AB, (STRAIGHT,) * 400), (AB, (STRAIGHT,) * 400)))

    def test_many_sums(self):
        rnd = random.Random(64)
        for free in ((), AB, (("a", "v", "up"), ("b", "v", "up"), ("c", "v", "down"))):
            for _ in range(12):
                one = a_sum(rnd, SUM_GEAR, free, 3, 3)
                other = told_otherwise(rnd, SUM_GEAR, one)
                self.need_least(SUM_GEAR, one, (free, other[1][rnd.randint(0, 2):]))

    def test_the_first_size_that_has_too_many(self):
        x = tuple(("x", tuple(one + other for other in "abcd")) for one in "efgh")
        # At SIZE 1 there is one way for each PART; they are unlike there, and 2 isn't asked.
        given = odd_of(1, x)
        self.assertEqual(least_size(ODD_GEAR, given, (given[0], ()))[0], 1)
        # 2 times 2 to the 18 ways.
        given = odd_of(2, x)
        need_refused(self, TooGreat, least_size, ODD_GEAR, given, (given[0], ()), field=("most", 20000))
        # 2 to the 10, and 2 to the 14: at 2 that is 2,048, and 32,768.
        given = odd_of(2, x[:2])
        self.assertEqual(least_size(ODD_GEAR, given, (given[0], ()))[0], 2)
        given = odd_of(2, x[:3])
        need_refused(self, TooGreat, least_size, ODD_GEAR, given, (given[0], ()), field=("most", 20000))
        # At 2 they are alike still, and at 3 there are 6 times 3 to the 7, and to the 11.
        given = odd_of(3, x[:1])
        self.assertEqual(least_size(ODD_GEAR, given, (given[0], ()))[0], 3)
        given = odd_of(3, x[:2])
        need_refused(self, TooGreat, least_size, ODD_GEAR, given, (given[0], ()), field=("most", 20000))
        # PARTS with 0, or that come to 0, count at each SIZE.
        given = odd_of(2)
        many = tuple(((0, 1), given[1][0][1] + (("s", ()),)) for _ in range(398))
        self.assertEqual(least_size(ODD_GEAR, (given[0], given[1] + many), (given[0], ()))[0], 2)


class Refusals(unittest.TestCase):
    def test_in_order(self):
        for thing in NO_GEARS:
            need_refused(self, BadGear, alike_at, thing, (2, 2), SUM, SUM)
            need_refused(self, BadGear, alike_at, thing, None, None, None)
            need_refused(self, BadGear, least_size, thing, SUM, SUM)
            need_refused(self, BadGear, least_size, thing, None, None)
        for thing in NO_SIZES:
            need_refused(self, BadSizes, alike_at, GEAR, thing, SUM, SUM)
            need_refused(self, BadSizes, alike_at, GEAR, thing, None, None)
        for thing in NO_SUMS:
            need_refused(self, BadSum, alike_at, GEAR, (2, 2), thing, SUM)
            need_refused(self, BadSum, alike_at, GEAR, (2, 2), thing, ((), ()))
            need_refused(self, BadSum, alike_at, GEAR, (2, 2), SUM, thing)
            need_refused(self, BadSum, least_size, GEAR, thing, SUM)
            need_refused(self, BadSum, least_size, GEAR, thing, ((), ()))
            need_refused(self, BadSum, least_size, GEAR, SUM, thing)
        for one, other, wanted in ((AB, (), ("a", "b")), (AB[:1], AB, ("b",)), ((("a", "v", "down"),), AB[:1], ("a",))):
            need_refused(self, Unfit, alike_at, GEAR, (2, 2), (one, ()), (other, ()), field=("others", wanted))
            need_refused(self, Unfit, least_size, GEAR, (one, ()), (other, ()), field=("others", wanted))
        wide = (AB, ((ONE, (("m", ("a", "b")),) + (("s", ()),) * 5),) * 400)
        need_refused(self, Unfit, alike_at, GEAR, (24, 1), wide, ((), ()), field=("others", ("a", "b")))
        need_refused(self, Unfit, least_size, GEAR, wide, ((), ()), field=("others", ("a", "b")))

    def test_too_many_choices(self):
        free = tuple((name, "v", "up") for name in "abcd")
        x = (free, ((ONE, (("x", tuple("abcd")),)),))
        start = time.perf_counter()
        # 10,000 and 10,000.
        other = (free, ((ONE, (("x", tuple("abdc")),)),))
        told = alike_at(ODD_GEAR, (10,), x, other)
        self.assertEqual(told[0], "unlike")
        need_witness(self, ODD_GEAR, x, other, told[1], (10,))
        self.assertEqual(alike_at(ODD_GEAR, (10,), x, x), ("alike",))
        self.assertLess(time.perf_counter() - start, 20)
        need_refused(self, TooGreat, alike_at, ODD_GEAR, (11,), x, other, field=("most", 20000))
        need_refused(self, TooGreat, alike_at, ODD_GEAR, (11,), x, x, field=("most", 20000))
        self.assertEqual(alike_at(ODD_GEAR, (11,), x, (free, ()))[0], "unlike")
        # Those with FRACTION 0 count, JOINED names count once, PARTS without names count 1.
        for more in ((ONE, (("x", tuple("abcd")), ("s", ()))), ((0, 1), (("x", tuple("abcd")),))):
            need_refused(
                self, TooGreat, alike_at, ODD_GEAR, (10,), (free, x[1] + (more,)), other, field=("most", 20000),
            )
            need_refused(
                self, TooGreat, alike_at, ODD_GEAR, (10,), other, (free, x[1] + (more,)), field=("most", 20000),
            )
        gear = (("v",), (("m", (UP, DOWN), ()), ("q", (UP, UP, DOWN, DOWN), ()), ("s", (), ())))
        loop = ((ONE, (("q", ("a", "b", "b", "a")), ("q", ("c", "d", "c", "d")))),)
        self.assertEqual(alike_at(gear, (10,), ((), loop), ((), loop)), ("alike",))
        for more in ((ONE, ()), ((0, 1), ()), (ONE, (("s", ()),)), (ONE, (("m", ("k", "k")),))):
            need_refused(self, TooGreat, alike_at, gear, (10,), ((), loop + (more,)), ((), loop), field=("most", 20000))
            need_refused(self, TooGreat, alike_at, gear, (10,), ((), loop), ((), loop + (more,)), field=("most", 20000))

    def test_too_wide(self):
        six = (ONE, (("s", ()),) * 6)
        one = (("s", ()),)
        # 4 times 6 to the 6, and 13,376 beside.
        fills = ((5, 1), (4, 4), (3, 1), (2, 5), (1, 3), (0, 2))
        parts = (six,) * 4 + tuple(
            ((at + 1, 1), one * factors) for factors, many in fills for at in range(many)
        )
        self.assertEqual(alike_at(ODD_GEAR, (1,), ((), parts), ((), ()))[0], "unlike")
        self.assertEqual(least_size(ODD_GEAR, ((), parts), ((), ()))[0], 1)
        for share in (ONE, (0, 1)):
            for pair in ((((), parts + ((share, ()),)), ((), ())), (((), parts), ((), ((share, ()),)))):
                need_refused(self, TooGreat, alike_at, ODD_GEAR, (1,), *pair, field=("most", 200000))
                need_refused(self, TooGreat, least_size, ODD_GEAR, *pair, field=("most", 200000))
        # Ahead of any answer: where they are ALIKE, too.
        need_refused(
            self, TooGreat, alike_at, ODD_GEAR, (1,), ((), (six,) * 3), ((), (six,) * 3), field=("most", 200000),
        )
        need_refused(self, TooGreat, least_size, ODD_GEAR, ((), (six,) * 3), ((), (six,) * 3), field=("most", 200000))
        # CHOICES are looked at first by alike_at, WIDE by least_size.
        x = tuple(("x", tuple(one + other for other in "abcd")) for one in "efghij")
        free = tuple((name, "v", "up") for name in names_of(x))
        both = (free, ((ONE, x),) * 5)
        need_sum(ODD_GEAR, both)
        need_refused(self, TooGreat, alike_at, ODD_GEAR, (2,), both, (free, ()), field=("most", 20000))
        need_refused(self, TooGreat, alike_at, ODD_GEAR, (1,), both, (free, ()), field=("most", 200000))
        need_refused(self, TooGreat, least_size, ODD_GEAR, both, (free, ()), field=("most", 200000))
        # HEAVY ahead of WIDE.
        heavy = ((), ((ONE, (("c", ()),) * 6),))
        need_refused(self, TooGreat, least_size, BARE_GEAR, heavy, ((), ()), field=("most", 5000))
        need_refused(self, TooGreat, least_size, BARE_GEAR, ((), ()), heavy, field=("most", 5000))
        need_refused(self, TooGreat, alike_at, BARE_GEAR, (1,), heavy, ((), ()), field=("most", 200000))

    def test_at_the_bounds_within_seconds(self):
        rnd = random.Random(65)
        start = time.perf_counter()
        free = tuple((name, "v", "up") for name in "pqrt")
        for size in (8, 11):
            one = (free, ((ONE, (("c", tuple("pqrt")),)),))
            self.assertEqual(alike_at(GREAT_GEAR, (size,), one, (free, ()))[0], "unlike")
        ring = tuple(("m", (one, other)) for one, other in zip("abcdef", "bcdefa"))
        turned = list(ring)
        rnd.shuffle(turned)
        self.assertEqual(
            alike_at(GEAR, (4, 1), ((), ((ONE, ring),) * 2), ((), ((ONE, tuple(turned)),) * 2)), ("alike",),
        )
        self.assertEqual(alike_at(GEAR, (5, 1), ((), ((ONE, ring),)), ((), ()))[0], "unlike")
        many = (AB, tuple(((at + 1, 1), (("m", ("a", "b")),)) for at in range(400)))
        self.assertEqual(alike_at(GEAR, (7, 1), many, (AB, ()))[0], "unlike")
        need_refused(self, TooGreat, alike_at, GEAR, (8, 1), many, (AB, ()), field=("most", 20000))
        self.assertLess(time.perf_counter() - start, 20)


if __name__ == "__main__":
    unittest.main()
