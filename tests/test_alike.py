"""Promises 9, 10 and 11 as slotsure.alike tells them: SUMS that are ALIKE, PAPERS and WITNESSES."""

import itertools
import random
import time
import unittest
from fractions import Fraction

from helper import (
    BARE_GEAR, GEAR, NOTHINGS, SUM_GEAR, UP, DOWN, a_sum, need_paper, need_refused, need_same_by_name,
    need_witness, put, some_telling, spoiled, told_otherwise,
)
from slotsure.alike import alike, check_alike, check_unlike
from slotsure.errors import BadGear, BadSum, TooGreat, Unfit
from slotsure.forms import form, weight
from slotsure.joins import even, odd
from slotsure.sums import plain, scaled

NAMES = ("gear", "one", "other")
AB = (("a", "v", "up"), ("b", "v", "down"))
ONE = (1, 1)
STRAIGHT = ((2, 3), (("m", ("a", "b")),))
ROUND = ((-1, 2), (("m", ("a", "c")), ("m", ("c", "b"))))
SUM = (AB, (STRAIGHT, ROUND))
NOUGHT = ((1, 1), (("m", ("a", "b")), ("e", ("c", "d")), ("f", ("c", "d"))))

FREES = (
    (), (("a", "v", "up"),), AB, (("a", "v", "up"), ("b", "v", "up"), ("c", "v", "down")),
    (("a", "v", "down"), ("c", "v", "up"), ("d", "w", "up"), ("zz", "w", "down")),
)
NO_GEARS = (*NOTHINGS, (), (("b", "a"), ()), [GEAR[0], GEAR[1]])
NO_SUMS = (*NOTHINGS, (), (AB,), (AB, []), (AB, (STRAIGHT,) * 401), (AB, (((2, 2), STRAIGHT[1]),)), (AB, ((ONE, ()),)))

# By these TERMS with WEIGHTS up to the bound can be as WIDE as may be.
WIDE_GEAR = (
    ("v",),
    (
        ("a", (UP,) * 4, (((1, 0, 2, 3), 1), ((1, 2, 3, 0), 1))),
        ("b", (DOWN,) * 4, (((1, 0, 2, 3), -1), ((1, 2, 3, 0), -1))),
        ("c", (UP,) * 4, (((1, 2, 3, 0), 1), ((2, 1, 0, 3), -1))),
        ("d", (DOWN,) * 4, (((1, 0, 2, 3), 1), ((1, 2, 3, 0), 1))),
        ("g", (UP,), ()),
        ("m", (UP, DOWN), ()),
        ("s", (), ()),
    ),
)


def width(parts, groups):
    """What 11 tells to be added up."""
    most = max((len(term) for _, term in parts), default=0)
    total = 0
    for _, term in parts:
        many = 1
        for box, _ in term:
            many *= most * groups[box]
        total += many
    return total


class AlikeCase(unittest.TestCase):
    def need_alike(self, gear, one, other):
        word, paper = told = need_same_by_name(self, alike, NAMES, (gear, one, other))
        self.assertIs(type(told), tuple)
        self.assertEqual(word, "alike")
        need_paper(self, gear, one, other, paper)
        self.assertIs(check_alike(gear, one, other, paper), True)
        self.assertIs(check_unlike(gear, one, other, paper), False)
        return paper

    def need_unlike(self, gear, one, other):
        word, witness = told = need_same_by_name(self, alike, NAMES, (gear, one, other))
        self.assertIs(type(told), tuple)
        self.assertEqual(word, "unlike")
        need_witness(self, gear, one, other, witness)
        self.assertIs(check_unlike(gear, one, other, witness), True)
        self.assertIs(check_alike(gear, one, other, witness), False)
        return witness


class Alike(AlikeCase):
    def test_by_hand(self):
        for one, other in (
            (SUM, SUM), (((), ()), ((), ())), ((AB, ()), (AB, ())),
            (SUM, (AB, (ROUND, STRAIGHT))),
            (SUM, (AB, (
                ((-1, 2), (("m", ("x", "b")), ("m", ("a", "x")))), ((1, 3), STRAIGHT[1]), ((1, 3), STRAIGHT[1]),
            ))),
            (SUM, (AB, (STRAIGHT, ROUND, NOUGHT, ((0, 1), STRAIGHT[1])))),
            ((AB, ()), (AB, (NOUGHT, ((0, 1), ROUND[1])))), ((AB, (NOUGHT,)), (AB, ())),
            ((AB, (STRAIGHT, ((-2, 3), STRAIGHT[1]))), (AB, ())),
            (((), (((1, 2), ()), ((1, 3), ()))), ((), (((5, 6), ()),))),
        ):
            self.need_alike(GEAR, one, other)
            self.need_alike(GEAR, other, one)

    def test_sums_told_otherwise(self):
        rnd = random.Random(50)
        for free in FREES:
            for many in (0, 1, 3, 6):
                one = a_sum(rnd, SUM_GEAR, free, 3, many)
                other = told_otherwise(rnd, SUM_GEAR, one)
                self.need_alike(SUM_GEAR, one, other)
                self.need_alike(SUM_GEAR, other, told_otherwise(rnd, SUM_GEAR, one))

    def test_unlike_by_hand(self):
        s, ab, ba = ("s", ()), ("e", ("a", "b")), ("e", ("b", "a"))
        two = (("a", "v", "up"), ("b", "v", "up"))
        for gear, one, other in (
            (GEAR, SUM, (AB, ())), (GEAR, SUM, (AB, (STRAIGHT,))), (GEAR, SUM, (AB, (ROUND,))),
            (GEAR, SUM, scaled(GEAR, SUM, (-1, 1))), (GEAR, SUM, scaled(GEAR, SUM, (10 ** 50 + 1, 10 ** 50))),
            (GEAR, ((), ((ONE, ()),)), ((), ())), (GEAR, ((), ((ONE, ()),)), ((), ((ONE, (s,)),))),
            (GEAR, (two, ((ONE, (ab,)),)), (two, ((ONE, (ab,)), (ONE, (ba,))))),
            # Powers of a BOX without SLOTS: these meet at 0, at 1, at 2 and so on.
            (GEAR, ((), ((ONE, (s,)),)), ((), ((ONE, (s, s)),))),
            (GEAR, ((), ((ONE, (s,) * 3), ((2, 1), (s,)))), ((), (((3, 1), (s, s)),))),
            (GEAR, ((), ((ONE, (s,) * 4), ((11, 1), (s,) * 2))), ((), (((6, 1), (s,) * 3), ((6, 1), (s,))))),
            # The trace of a square, and the square of a trace.
            (
                GEAR, ((), ((ONE, (("m", ("a", "b")), ("m", ("b", "a")))),)),
                ((), ((ONE, (("m", ("a", "a")), ("m", ("b", "b")))),)),
            ),
        ):
            self.need_unlike(gear, one, other)
            self.need_unlike(gear, other, one)

    def test_powers_that_meet_at_many_numbers(self):
        # x (x - 1) (x - 2) .. up to six FACTORS.
        s = ("s", ())
        powers = [Fraction(1)]
        for root in range(6):
            powers = [
                (powers[at - 1] if at > 0 else 0) - root * (powers[at] if at < len(powers) else 0)
                for at in range(len(powers) + 1)
            ]
        parts = tuple((Fraction(share).as_integer_ratio(), (s,) * at) for at, share in enumerate(powers))
        for cut in range(8):
            self.need_unlike(GEAR, ((), parts[:cut]), ((), tuple(((-a, b), term) for (a, b), term in parts[cut:])))

    def test_products_of_boxes_without_slots(self):
        gear = (("v",), tuple((name, (), ()) for name in "pqrt"))

        def total(*parts):
            return (), tuple(((share, 1), tuple((box, ()) for box in boxes)) for share, boxes in parts)

        for one, other in (
            (total((1, "pq")), total((1, "qq"))), (total((1, "pq"), (1, "qr")), total((2, "rr"))),
            # p (p - 1) q (1 - q), and (p - q) (q - r) (r - p).
            (total((1, "ppq"), (-1, "pq"), (-1, "ppqq"), (1, "pqq")), total()),
            (total((1, "ppr"), (-1, "ppq"), (1, "qqp"), (-1, "qqr"), (1, "rrq"), (-1, "rrp")), total()),
            (total((1, "pqrt")), total((1, "pppp"))), (total((1, "ppqq"), (1, "qqpp")), total((2, "pppq"))),
        ):
            self.need_unlike(gear, one, other)
            self.need_unlike(gear, other, one)
        rnd = random.Random(55)
        for _ in range(60):
            one, other = (
                total(*((rnd.randint(-3, 3), "".join(rnd.choices("pqr", k=rnd.randint(0, 4)))) for _ in range(5)))
                for _ in range(2)
            )
            (self.need_alike if plain(gear, one) == plain(gear, other) else self.need_unlike)(gear, one, other)

    def test_alike_just_where_the_plain_forms_are_the_same(self):
        rnd = random.Random(51)
        seen = {True: 0, False: 0}
        for free in FREES:
            for _ in range(25):
                one = a_sum(rnd, SUM_GEAR, free, 3, 3)
                other = told_otherwise(rnd, SUM_GEAR, one)
                if rnd.random() < 0.6 and other[1]:
                    at = rnd.randrange(len(other[1]))
                    share, term = other[1][at]
                    sign, term = some_telling(rnd, SUM_GEAR, term)
                    other = (free, other[1][:at] + (((rnd.choice([1, -1]) * share[0], share[1]), term),
                        ) + other[1][at + 1:])
                same = plain(SUM_GEAR, one) == plain(SUM_GEAR, other)
                seen[same] += 1
                if same:
                    self.need_alike(SUM_GEAR, one, other)
                else:
                    self.need_unlike(SUM_GEAR, one, other)
        self.assertGreater(min(seen.values()), 20)

    def test_unlike_but_alike_at_small_sizes(self):
        free = tuple((name, "v", "up") for name in "abc")
        given = odd(SUM_GEAR, (free, ((ONE, tuple(("g", (name,)) for name in "abc")),)), tuple("abc"))
        self.need_alike(SUM_GEAR, given, (free, ()))
        gear = (("v",), (("a", (UP,), ()), ("b", (UP,), ()), ("c", (UP,), ())))
        given = odd(gear, (free, ((ONE, (("a", ("a",)), ("b", ("b",)), ("c", ("c",)))),)), tuple("abc"))
        witness = self.need_unlike(gear, given, (free, ()))
        self.assertGreaterEqual(witness[0][0], 3)
        four = tuple((name, "v", "up") for name in "abcd")
        gear = (("v",), tuple((name, (UP,), ()) for name in "abcd"))
        given = odd(gear, (four, ((ONE, tuple((name, (name,)) for name in "abcd")),)), tuple("abcd"))
        self.assertGreaterEqual(self.need_unlike(gear, given, (four, ()))[0][0], 4)

    def test_four_and_twenty_names_of_one_space(self):
        gear = (("v",), (("a", (UP,) * 4, (((1, 0, 2, 3), 1), ((1, 2, 3, 0), 1))), ("b", (UP,) * 4, ()), ("s", (), ())))
        names = [one + other for one in "abcd" for other in "abcdef"]
        free = tuple((name, "v", "up") for name in names)
        term = tuple(("b", tuple(names[4 * at:4 * at + 4])) for at in range(6))
        turned = (("b", (names[1], names[0], *names[2:4])),) + term[1:]
        witness = self.need_unlike(gear, (free, ((ONE, term),)), (free, ((ONE, turned),)))
        self.assertEqual(len(set(witness[2])), 24)
        self.need_alike(gear, (free, ((ONE, term),)), (free, ((ONE, term[::-1]),)))
        # One FACTOR of a great GROUP.
        free = tuple((name, "v", "up") for name in "abcdefgh")
        one = (free, ((ONE, (("a", tuple("abcd")), ("a", tuple("efgh")))),))
        other = (free, ((ONE, (("a", tuple("abce")), ("a", tuple("dfgh")))),))
        self.need_unlike(gear, one, other)
        self.need_alike(gear, one, (free, ((ONE, (("a", tuple("hgfe")), ("a", tuple("cabd")))),)))

    def test_even_and_odd_boxes(self):
        two = tuple((name, "v", "up") for name in "ab")
        down = tuple((name, "v", "down") for name in "ab")
        e, f = (two, ((ONE, (("e", ("a", "b")),)),)), (down, ((ONE, (("f", ("a", "b")),)),))
        self.need_alike(GEAR, even(GEAR, e, ("a", "b")), e)
        self.need_alike(GEAR, odd(GEAR, e, ("a", "b")), (two, ()))
        self.need_alike(GEAR, odd(GEAR, f, ("a", "b")), f)
        self.need_alike(GEAR, even(GEAR, f, ("a", "b")), (down, ()))
        self.need_unlike(GEAR, f, (down, ((ONE, (("f", ("b", "a")),)),)))
        self.need_alike(GEAR, f, (down, (((-1, 1), (("f", ("b", "a")),)),)))
        self.need_alike(
            GEAR, ((("a", "v", "up"), ("b", "w", "down")), ((ONE, (("n", ("a", "b")),)),)),
            ((("a", "v", "up"), ("b", "w", "down")), ()),
        )

    def test_a_witness_where_many_boxes_meet(self):
        rnd = random.Random(52)
        for _ in range(30):
            one, other = (a_sum(rnd, GEAR, (), 3, 3) for _ in range(2))
            word, told = alike(GEAR, one, other)
            (self.need_alike if word == "alike" else self.need_unlike)(GEAR, one, other)

    def test_what_is_told_is_handed_out_anew(self):
        self.assertEqual(alike(GEAR, SUM, SUM), alike(GEAR, SUM, SUM))
        self.assertEqual(alike(GEAR, SUM, (AB, ())), alike(GEAR, SUM, (AB, ())))


class Refusals(unittest.TestCase):
    def test_in_order(self):
        heavy = ((), ((ONE, (("c", ()),) * 6),))
        for thing in NO_GEARS:
            for call, behind in ((alike, ()), (check_alike, (None,)), (check_unlike, (None,))):
                need_refused(self, BadGear, call, thing, SUM, SUM, *behind)
                need_refused(self, BadGear, call, thing, None, None, *behind)
        for thing in NO_SUMS:
            for call, behind in ((alike, ()), (check_alike, (None,)), (check_unlike, (None,))):
                need_refused(self, BadSum, call, GEAR, thing, SUM, *behind)
                need_refused(self, BadSum, call, GEAR, thing, ((), ()), *behind)
                need_refused(self, BadSum, call, GEAR, SUM, thing, *behind)
        need_refused(self, BadSum, alike, BARE_GEAR, heavy, None)
        need_refused(self, BadSum, alike, BARE_GEAR, None, heavy)
        need_refused(self, Unfit, alike, BARE_GEAR, heavy, ((("a", "a", "up"),), ()), field=("others", ("a",)))

    def test_unfit(self):
        up, down, out = ("a", "v", "up"), ("a", "v", "down"), ("a", "w", "up")
        b, c = ("b", "v", "up"), ("c", "v", "up")
        for one, other, wanted in (
            ((up,), (), ("a",)), ((), (up,), ("a",)), ((up,), (down,), ("a",)), ((up,), (out,), ("a",)),
            ((up, b), (up, c), ("b", "c")), ((b,), (up, c), ("a", "b", "c")), ((up, b, c), (down, b), ("a", "c")),
        ):
            need_refused(self, Unfit, alike, GEAR, (one, ()), (other, ()), field=("others", wanted))

    def test_heavy_then_wide(self):
        c, light = ("c", ()), ((), ((ONE, ()),))
        heavy = ((), ((ONE, (c,) * 6),))
        for one, other in (
            (heavy, light), (light, heavy), (heavy, heavy), (((), (((0, 1), (c,) * 6),)), light),
            (light, ((), light[1] + (((0, 1), (c,) * 6),))),
        ):
            need_refused(self, TooGreat, alike, BARE_GEAR, one, other, field=("most", 5000))
        # Too WIDE as well as HEAVY: HEAVY is looked at first, of both.
        names = "abcdefgh"
        free = tuple((name, "v", "up" if at < 4 else "down") for at, name in enumerate(names))
        term = (("a", tuple("abcd")), ("b", tuple("efgh")), ("s", ()), ("s", ()), ("s", ()), ("s", ()))
        self.assertGreater(weight(WIDE_GEAR, term), 5000)
        need_refused(self, TooGreat, alike, WIDE_GEAR, (free, ((ONE, term),)), (free, ()), field=("most", 5000))
        need_refused(self, TooGreat, alike, WIDE_GEAR, (free, ()), (free, ((ONE, term),)), field=("most", 5000))
        self.assertLess(weight(WIDE_GEAR, term[:5]), 5000)
        need_refused(self, TooGreat, alike, WIDE_GEAR, (free, ((ONE, term[:5]),)), (free, ()), field=("most", 200000))

    def parts_of(self, counts):
        """PARTS with so many FACTORS, each so often, FRACTIONS unlike."""
        return tuple(
            (Fraction(at + 1, 7).as_integer_ratio(), (("s", ()),) * factors)
            for at, factors in enumerate(factors for factors, many in counts for _ in range(many))
        )

    def test_just_as_wide_as_may_be(self):
        # 6 times itself so often: 186,624 + 7,776 + 5,184 + 216 + 180 + 18 + 2 = 200,000.
        parts = self.parts_of(((6, 4), (5, 1), (4, 4), (3, 1), (2, 5), (1, 3), (0, 2)))
        self.assertEqual(width(parts, {"s": 1}), 200000)
        start = time.perf_counter()
        for cut in range(0, len(parts) + 1, 4):
            one, other = ((), parts[:cut]), ((), parts[cut:])
            self.assertEqual(alike(WIDE_GEAR, one, other)[0], "unlike")
            for share in (ONE, (0, 1)):
                more = (share, ())
                for pair in (((), one[1] + (more,)), other), (one, ((), other[1] + (more,))):
                    need_refused(self, TooGreat, alike, WIDE_GEAR, *pair, field=("most", 200000))
        self.assertLess(time.perf_counter() - start, 20)
        # The greatest number of FACTORS counts for all PARTS, of the other SUM, too.
        parts = self.parts_of(((1, 399),)) + ((ONE, (("s", ()),) * 2),) * 1
        self.assertEqual(alike(WIDE_GEAR, ((), parts), ((), ()))[0], "unlike")
        fives = ((), self.parts_of(((5, 65),)))
        self.assertEqual(width(fives[1][:64], {"s": 1}), 200000)
        self.assertEqual(alike(WIDE_GEAR, ((), fives[1][:64]), ((), ()))[0], "unlike")
        need_refused(self, TooGreat, alike, WIDE_GEAR, fives, ((), ()), field=("most", 200000))
        need_refused(
            self, TooGreat, alike, WIDE_GEAR, ((), fives[1][:32]), ((), ((ONE, (("s", ()),) * 6),)),
            field=("most", 200000),
        )

    def test_just_up_to_both_bounds_within_seconds(self):
        free = tuple((name, "v", "up") for name in "pqrt")
        groups = {"a": 24, "b": 24, "c": 8, "d": 24, "s": 1}
        orders = list(itertools.permutations("pqrt")) * 16
        start = time.perf_counter()
        for box, nought in (("b", True), ("d", False)):
            term = (("a", tuple("wxyz")), (box, tuple("zxwy")), ("c", tuple("rqtp")))
            self.assertEqual(weight(WIDE_GEAR, term), 24 * 24 * 8)
            self.assertEqual(form(WIDE_GEAR, term)[0] == 0, nought)
            rest = [(("c", order),) + (("s", ()),) * 2 for order in orders[:348]]
            rest += [(("c", order), ("s", ())) for order in orders[:2]] + [(("c", order),) for order in orders[:4]]
            shares = [Fraction(at + 1, 3).as_integer_ratio() for at in range(len(rest))]
            parts = ((ONE, term),) + tuple(zip(shares, rest))
            # Of those with one FACTOR, none can be 8 alone: 200,000 can't come.
            self.assertEqual(width(parts, groups), 199824)
            one, other = (free, parts[:200]), (free, parts[200:])
            self.assertEqual(alike(WIDE_GEAR, one, other)[0], "unlike")
            self.assertEqual(alike(WIDE_GEAR, (free, parts), (free, ()))[0], "unlike")
            # Each with its own counterpart, but the heavy one.
            parts = parts[:1] + tuple((((-1) ** at, 1), rest[at // 2]) for at in range(348))
            told = alike(WIDE_GEAR, (free, parts), (free, ()))
            self.assertEqual(told[0], "alike" if nought else "unlike")
        self.assertLess(time.perf_counter() - start, 20)

    def test_many_parts_within_seconds(self):
        rnd = random.Random(54)
        start = time.perf_counter()
        one = a_sum(rnd, SUM_GEAR, AB, 2, 400)
        other = list(one[1])
        rnd.shuffle(other)
        told = alike(SUM_GEAR, one, (AB, tuple(other)))
        self.assertEqual(told[0], "alike")
        need_paper(self, SUM_GEAR, one, (AB, tuple(other)), told[1])
        self.assertIs(check_alike(SUM_GEAR, one, (AB, tuple(other)), told[1]), True)
        word, witness = alike(SUM_GEAR, one, (AB, tuple(other[:-1]) + ((ONE, (("m", ("a", "b")), ("m", ("c", "c")))),)))
        self.assertEqual(word, "unlike")
        need_witness(
            self, SUM_GEAR, one, (AB, tuple(other[:-1]) + ((ONE, (("m", ("a", "b")), ("m", ("c", "c")))),)), witness,
        )
        self.assertLess(time.perf_counter() - start, 20)


class CheckAlike(unittest.TestCase):
    FIRST = (AB, (STRAIGHT, ROUND, NOUGHT))
    SECOND = (AB, (((-1, 2), (("m", ("k", "b")), ("m", ("a", "k")))), ((1, 3), STRAIGHT[1]), ((1, 3), STRAIGHT[1])))
    HEADS = (STRAIGHT[1], ROUND[1])
    ROWS = (
        ("head", 0, ()), ("head", 1, ()), ("nought", (("swap", 0, 1), ("move", 0, (1, 0), 1), ("move", 2, (1, 0), -1),
        ("name", "c", "x"), ("name", "d", "c"), ("name", "x", "d"), ("swap", 0, 1))),
        ("head", 1, (("swap", 0, 1), ("name", "k", "c"))), ("head", 0, ()), ("head", 0, ()),
    )
    PAPER = (HEADS, ROWS)

    def need(self, wanted, paper, one=None, other=None, gear=GEAR):
        things = (gear, one or self.FIRST, other or self.SECOND, paper)
        self.assertIs(check_alike(*things), wanted)

    def test_papers(self):
        told = need_same_by_name(self, check_alike, (*NAMES, "paper"), (GEAR, self.FIRST, self.SECOND, self.PAPER))
        self.assertIs(told, True)
        self.need(True, ((), ()), ((), ()), ((), ()))
        self.need(True, ((), ()), (AB, ()), (AB, ()))
        # HEADS to which none leads, of any FREE names, or alike.
        self.need(True, (self.HEADS + ((), (("s", ()),), STRAIGHT[1], STRAIGHT[1]), self.ROWS))
        self.need(True, (((), (("s", ()),)), ()), (AB, ()), (AB, ()))
        self.need(True, (self.HEADS + self.HEADS, self.ROWS))
        rows = put(put(put(self.ROWS, (0, 1), 2), (4, 1), 2), (5, 1), 2)
        self.need(True, (self.HEADS + self.HEADS, rows))
        # For each of two like HEADS what leads to it comes to 0.
        self.need(False, (self.HEADS + self.HEADS, put(self.ROWS, (0, 1), 2)))
        self.need(False, (self.HEADS + self.HEADS, put(self.ROWS, (4, 1), 2)))
        # Longer ways.
        twice = (("swap", 0, 1), ("swap", 0, 1)) * 40
        self.need(True, (self.HEADS, put(self.ROWS, (1, 2), twice)))
        # Another head of the same TERMS.
        head = (("m", ("x", "b")), ("m", ("a", "x")))
        rows = put(self.ROWS, (1, 2), (("name", "c", "x"), ("swap", 0, 1)))
        self.need(True, ((STRAIGHT[1], head), put(rows, (3, 2), (("name", "k", "x"),))))

    def test_signs(self):
        down = (("a", "v", "down"), ("b", "v", "down"))
        one = (down, ((ONE, (("f", ("a", "b")),)),))
        other = (down, (((-1, 1), (("f", ("b", "a")),)),))
        step = ("move", 0, (1, 0), -1)
        self.need(True, ((one[1][0][1],), (("head", 0, ()), ("head", 0, (step,)))), one, other)
        self.need(True, ((other[1][0][1],), (("head", 0, (step,)), ("head", 0, ()))), one, other)
        same = (down, ((ONE, (("f", ("b", "a")),)),))
        self.need(False, ((one[1][0][1],), (("head", 0, ()), ("head", 0, (step,)))), one, same)
        # It is no TERM that is its own TELLING with -1.
        self.need(False, ((), (("nought", (step,)), ("nought", (step,)))), one, other)
        self.need(False, ((), (("nought", ()), ("nought", ()))), one, other)
        self.need(False, ((), (("nought", (step, step)), ("nought", (step, step)))), one, other)

    def test_what_is_none(self):
        steps = self.ROWS[3][2]
        wrong = [
            # A HEAD that is no TERM; HEADS and ROWS that are no tuples.
            (self.HEADS + ((("m", ("a",)),),), self.ROWS), (self.HEADS + (None,), self.ROWS),
            (self.HEADS + ((("m", ("a", "b")),) * 2,), self.ROWS), (list(self.HEADS), self.ROWS),
            (self.HEADS, list(self.ROWS)), [self.HEADS, self.ROWS], (self.HEADS, self.ROWS, ()), (self.HEADS,), (),
            (self.ROWS, self.HEADS),
            # Rows too few, too many, in another order.
            (self.HEADS, self.ROWS[:-1]), (self.HEADS, self.ROWS + (("head", 0, ()),)), (self.HEADS, self.ROWS[1:]),
            (self.HEADS, ()), (self.HEADS, self.ROWS[::-1]), (self.HEADS, self.ROWS[3:] + self.ROWS[:3]),
            # Heads left out.
            (self.HEADS[:1], self.ROWS), ((), self.ROWS), (self.HEADS[::-1], self.ROWS),
        ]
        for at, rows in (
            # A wrong word, K beyond the HEADS, True, of any kind.
            (0, ("Head", 0, ())), (0, ("nought", 0, ())), (0, ("nought", ())), (0, ("head", 2, ())),
            (0, ("head", -1, ())),
            (0, ("head", False, ())), (1, ("head", -1, ())), (0, ("head", -2, ())), (1, ("head", True, ())),
            (0, ("head", "0", ())), (0, ("head", 0.0, ())),
            (0, ("head", None, ())), (0, ("head", 0)), (0, ("head", 0, (), ())), (0, (0, "head", ())),
            (0, ["head", 0, ()]),
            (0, ("head", (), 0)), (0, None), (0, "head"), (0, ()), (0, ("",)), (0, ("head", 10 ** 30, ())),
            # STEPS as a list, that can't stand, that lead elsewhere.
            (0, ("head", 0, [])), (3, ("head", 1, list(steps))), (3, ("head", 1, (list(steps[0]), steps[1]))),
            (3, ("head", 1, (steps[1], steps[0]) + (("swap", 0, 2),))), (3, ("head", 1, steps[:1])),
            (3, ("head", 1, ())),
            (3, ("head", 1, steps + (("swap", 0, 1),))), (3, ("head", 0, steps)), (1, ("head", 0, ())),
            (3, ("head", 1, (("swap", 1, 0), steps[1]))), (3, ("head", 1, (("swap", False, True), steps[1]))),
            (3, ("head", 1, (steps[0], ("name", "k", "a")))), (3, ("head", 1, (steps[0], ("name", "a", "c")))),
            (3, ("head", 1, (("swap", 0, 1, 0), steps[1]))), (3, ("head", 1, (("turn", 0, 1), steps[1]))),
            (3, ("head", 1, None)), (3, ("head", 1, "swap")), (3, ("head", 1, (None,))), (3, ("head", 1, steps[0])),
            (3, ("head", 1, steps + (("move", 0, (1, 0), 1),))), (3, ("head", 1, steps + (("move", 0, (0, 1), -1),))),
            (3, ("head", 1, steps + (("move", 0, (0, 1), True),))),
            # "nought" that leads elsewhere, or to itself with 1.
            (2, ("nought", ())), (2, ("nought", self.ROWS[2][1][:-1])), (2, ("nought", self.ROWS[2][1] * 2)),
            (2, ("nought", (("move", 2, (1, 0), -1),))), (2, ("nought", list(self.ROWS[2][1]))),
            (2, ("nought", self.ROWS[2][1], ())), (2, ("nought",)), (2, ("noughts", self.ROWS[2][1])),
            (2, ("nought", None)),
            (2, ("head", 0, self.ROWS[2][1])),
        ):
            wrong.append((self.HEADS, put(self.ROWS, (at,), rows)))
        self.assertEqual(self.PAPER[1][3], ("head", 1, steps))
        for at, paper in enumerate(wrong):
            with self.subTest(at=at):
                self.need(False, paper)

    def test_fractions_that_do_not_come_to_nought(self):
        for at in range(5):
            for share in ((0, 1), (1, 7), (-1, 3), (4, 3)):
                if at < 2:
                    self.need(False, self.PAPER, one=put(self.FIRST, (1, at, 0), share))
                elif at > 2:
                    self.need(False, self.PAPER, other=put(self.SECOND, (1, at - 3, 0), share))
                else:
                    # What is NOUGHT may have any.
                    self.need(True, self.PAPER, one=put(self.FIRST, (1, at, 0), share))

    def test_other_free_names(self):
        free = (("a", "v", "up"), ("b", "v", "up"))
        for other in (((), ()), (AB[:1], ()), (AB + (("c", "v", "up"),), ()), (free, ())):
            self.need(False, ((), ()), (AB, ()), other)
            self.need(False, ((), ()), other, (AB, ()))
            self.need(False, self.PAPER, other=other)

    def test_things_of_any_kind(self):
        for at, thing in enumerate(NOTHINGS):
            with self.subTest(at=at):
                self.need(False, thing)
                self.need(False, thing, ((), ()), ((), ()))
        for at, thing in enumerate(spoiled(self.PAPER)):
            with self.subTest(spoiled=at):
                # A head more, to which none leads, and which is an empty one, is none of these things.
                self.need(False, thing)

    def test_asked_of_what_alike_refuses(self):
        heavy = ((), ((ONE, (("c", ()),) * 6),))
        self.need(True, (((("c", ()),) * 6,), (("head", 0, ()), ("head", 0, ()))), heavy, heavy, BARE_GEAR)
        self.need(True, ((), (("nought", (("move", 3, (), -1),)),) * 2), heavy, heavy, BARE_GEAR)
        many = ((), ((ONE, (("s", ()),) * 6),) * 400)
        self.need(True, (((("s", ()),) * 6,), (("head", 0, ()),) * 800), many, many)


class CheckUnlike(unittest.TestCase):
    FIRST = (AB, (STRAIGHT, ROUND))
    SECOND = (AB, (STRAIGHT,))
    ARRAYS = tuple(
        (((1, 1), (1, 1)), ((1, 2), (2, 1)), ((2, 0), (-3, 1))) if box == "m" else () for box, _, _ in GEAR[1]
    )
    WITNESS = ((3, 1), ARRAYS, (1, 0))

    def need(self, wanted, witness, one=None, other=None, gear=GEAR):
        things = (gear, one or self.FIRST, other or self.SECOND, witness)
        self.assertIs(check_unlike(*things), wanted)

    def test_witnesses(self):
        told = need_same_by_name(self, check_unlike, (*NAMES, "witness"), (GEAR, self.FIRST, self.SECOND, self.WITNESS))
        self.assertIs(told, True)
        self.need(True, put(self.WITNESS, (0,), (24, 24)))
        self.need(True, self.WITNESS, self.SECOND, self.FIRST)
        self.need(True, ((1, 1), ((),) * 8, ()), ((), ((ONE, ()),)), ((), ()))
        # The square of what stands there: from 1 to 0, from 1 to 1, from 1 to 2.
        wanted = {(1, 0): True, (1, 1): True, (1, 2): True, (2, 0): False, (0, 0): False, (2, 2): False}
        for row, differs in wanted.items():
            self.need(differs, put(self.WITNESS, (2,), row))
        self.need(False, self.WITNESS, self.FIRST, self.FIRST)
        self.need(False, self.WITNESS, (AB, ()), (AB, ()))

    def test_what_is_none(self):
        sizes, arrays, row = self.WITNESS
        m = [box for box, _, _ in GEAR[1]].index("m")
        for at, witness in enumerate((
            # SIZES, ARRAYS and a ROW that are none.
            ((3,), arrays, row), ((3, 25), arrays, row), ((3, 0), arrays, row), ([3, 1], arrays, row),
            ((2, 1), arrays, row),
            ((3, True), arrays, row), (None, arrays, row), (sizes, arrays[1:], row), (sizes, list(arrays), row),
            (sizes, put(arrays, (0,), (((0, 1), ONE),)), row), (sizes, put(arrays, (m, 0), ((1, 2), ONE)), row),
            (sizes, put(arrays, (m, 0, 1), (0, 1)), row), (sizes, arrays, (1,)), (sizes, arrays, (1, 0, 0)),
            (sizes, arrays, ()),
            (sizes, arrays, (1, 3)), (sizes, arrays, (3, 0)), (sizes, arrays, (1, -1)), (sizes, arrays, (True, 0)),
            (sizes, arrays, (1, False)), (sizes, arrays, [1, 0]), (sizes, arrays, None), (sizes, arrays, 1),
            (sizes, arrays, (1, 0.0)), (sizes, arrays, "10"),
            # FRACTIONS with more than 1 beneath.
            (sizes, put(arrays, (m, 1, 1), (1, 2)), row), (sizes, put(arrays, (m, 0, 1), (3, 2)), row),
            (sizes, put(arrays, (2,), arrays[m] + (((2, 2), (1, 3)),)), row),
            # Something too few, too many.
            (sizes, arrays), (sizes, arrays, row, ()), [sizes, arrays, row], (), (arrays, sizes, row),
        )):
            with self.subTest(at=at):
                self.need(False, witness)
        # In another BOX, too.
        self.need(False, (sizes, put(arrays, (6,), (((), (1, 2)),)), row))
        self.need(True, (sizes, put(arrays, (6,), (((), (2, 1)),)), row))

    def test_things_of_any_kind(self):
        for at, thing in enumerate(NOTHINGS):
            with self.subTest(at=at):
                self.need(False, thing)
        for at, thing in enumerate(spoiled(self.WITNESS)):
            with self.subTest(spoiled=at):
                self.need(False, thing)

    def test_other_free_names(self):
        free = (("a", "v", "up"), ("b", "v", "up"))
        for other in (((), ()), (AB[:1], ()), (AB + (("c", "v", "up"),), ()), (free, ())):
            self.need(False, self.WITNESS, other=other)
            self.need(False, self.WITNESS, one=other)

    def test_too_great(self):
        rows = tuple((row, ONE) for row in list(itertools.product(range(24), repeat=2))[:400])
        arrays = tuple(rows if box == "m" else rows[:0] if box != "s" else (((), ONE),) for box, _, _ in GEAR[1])
        witness = ((24, 1), arrays, ())
        square = (("m", ("a", "b")), ("m", ("b", "a")))
        # 160,000 and 400 a hundred times.
        fits = ((), ((ONE, square),) + ((ONE, (("m", ("a", "a")),)),) * 100)
        small = ((), ((ONE, ()),))
        start = time.perf_counter()
        self.need(True, witness, fits, small)
        self.need(True, witness, fits, ((), fits[1][1:]))
        self.assertLess(time.perf_counter() - start, 10)
        wide = ((), fits[1] + ((ONE, (("s", ()),)),))
        for one, other in ((wide, small), (small, wide), (wide, wide), (fits, wide), (wide, fits)):
            need_refused(self, TooGreat, check_unlike, GEAR, one, other, witness, field=("most", 200000))
        # Only where all but the WORTHS is as told.
        self.need(False, put(witness, (2,), (0,)), wide, small)
        self.need(False, put(witness, (0,), (24, 25)), wide, small)
        self.need(False, put(witness, (1, 2, 0, 1), (1, 2)), wide, small)
        self.need(False, put(witness, (1,), arrays[1:]), wide, small)
        self.need(False, None, wide, small)
        self.need(False, witness, wide, (AB, ()))
        self.need(False, witness, (AB, ()), wide)

    def test_asked_of_what_alike_refuses(self):
        heavy = ((), ((ONE, (("a", ()),) * 6), (ONE, (("c", ()),) * 6)))
        arrays = ((((), (2, 1)),), (), ())
        self.need(True, ((1,), arrays, ()), heavy, ((), ()), BARE_GEAR)
        many = ((), ((ONE, (("s", ()),) * 6),) * 400)
        arrays = tuple((((), (1, 1)),) if box == "s" else () for box, _, _ in GEAR[1])
        self.need(True, ((1, 1), arrays, ()), many, ((), many[1][1:]))


if __name__ == "__main__":
    unittest.main()
