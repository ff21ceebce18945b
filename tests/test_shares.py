"""Promises 0 and 1 as slotsure.shares tells them: FRACTIONS."""

import unittest
from fractions import Fraction

from helper import NOTHINGS, need_refused, need_same_by_name
from slotsure.errors import BadNumber
from slotsure.shares import is_share, plus, share, times

FAR = 2 ** 200
GREAT = 10 ** 300

SHARES = [
    (0, 1), (1, 1), (-1, 1), (2, 1), (-3, 2), (3, 2), (7, 12), (-7, 12), (1, 6), (5, 6), (10, 21), (-10, 21),
    (FAR, 1), (-FAR, FAR - 1), (1, FAR), (FAR + 1, FAR), (GREAT + 1, GREAT), (-GREAT, 3 ** 50), (2 ** 64, 3),
    (5, 2 ** 65),
]

# Pairs of ints, and what comes near to them, that are no FRACTION.
NO_SHARES = [
    (0, 2), (0, 0), (0, -1), (2, 4), (-2, 4), (4, 2), (6, 3), (1, 0), (5, 0), (1, -2), (-1, -2), (-1, -1), (FAR, FAR),
    (2 * FAR, 2), (FAR, 2 * FAR + 2), (), (1,), (1, 2, 1), (0, 1, 0), (1, 1, 1), [0, 1], [1, 2], [1], "ab", "12",
    (True, 1), (1, True), (False, 1), (0, True), (True, True), (True, 2), ("1", 2), (1, "2"), (1.0, 2), (1, 2.0),
    (0.0, 1), (None, 1), (1, None), ((1, 2), 3), (1, (2,)), ([1], 2), (1, [2]), ({}, 1), (1, {}), {0: 1, 1: 2}, 0, 1,
    -1,
    2 ** 70, Fraction(1, 2), (Fraction(1), 2), (1, Fraction(2)), range(1, 3), {1, 2},
]

SMALL = range(-12, 13)


def fraction(told):
    return Fraction(told[0], told[1])


class Shares(unittest.TestCase):
    def need_told(self, told, wanted):
        """Needs the FRACTION that is this number, in lowest terms."""
        self.assertEqual(told, (wanted.numerator, wanted.denominator))
        self.assertIs(type(told), tuple)
        self.assertEqual([type(number) for number in told], [int, int])
        self.assertIs(is_share(told), True)


class IsShare(Shares):
    def test_fractions(self):
        for thing in SHARES:
            self.assertIs(is_share(thing), True, thing)

    def test_just_the_pairs_in_lowest_terms(self):
        for a in SMALL:
            for b in SMALL:
                wanted = b > 0 and Fraction(a, b).numerator == a and Fraction(a, b).denominator == b
                self.assertIs(is_share((a, b)), wanted, (a, b))

    def test_other_things(self):
        for at, thing in enumerate(NO_SHARES):
            with self.subTest(at=at):
                self.assertIs(is_share(thing), False)

    def test_things_of_any_kind(self):
        for at, thing in enumerate(NOTHINGS):
            with self.subTest(at=at):
                self.assertIs(is_share(thing), False)
                self.assertIs(is_share((thing, 1)), False)
                self.assertIs(is_share((1, thing)), False)
                self.assertIs(is_share((thing, thing)), False)

    def test_by_its_name_and_again(self):
        for _ in range(2):
            self.assertIs(is_share(thing=(-3, 2)), True)
            self.assertIs(is_share(thing=(2, -3)), False)
        row = [1, [2]]
        self.assertIs(is_share(row), False)
        self.assertEqual(row, [1, [2]])


class Share(Shares):
    def test_all_signs(self):
        for a in SMALL:
            for b in SMALL:
                if b != 0:
                    self.need_told(share(a, b), Fraction(a, b))
        self.assertEqual(share(1, -2), (-1, 2))
        self.assertEqual(share(-2, -4), (1, 2))
        self.assertEqual(share(0, -7), (0, 1))

    def test_great_numbers(self):
        for a in (FAR, -FAR, FAR * 15, GREAT, 0, 1):
            for b in (FAR, -FAR, FAR * 10, -GREAT, 6, -1):
                self.need_told(share(a, b), Fraction(a, b))
        self.assertEqual(share(FAR * 6, -FAR * 4), (-3, 2))

    def test_nothing_beneath(self):
        for a in (0, 1, -5, FAR):
            need_refused(self, BadNumber, share, a, 0)

    def test_no_whole_numbers(self):
        for at, thing in enumerate([*NOTHINGS, "1", (1, 2), (), Fraction(1, 2), Fraction(3)]):
            with self.subTest(at=at):
                need_refused(self, BadNumber, share, thing, 1)
                need_refused(self, BadNumber, share, 1, thing)
                need_refused(self, BadNumber, share, thing, 0)
                need_refused(self, BadNumber, share, thing, thing)

    def test_by_names(self):
        self.assertEqual(need_same_by_name(self, share, ("a", "b"), (6, -4)), (-3, 2))
        need_refused(self, BadNumber, lambda: share(b=0, a=1))


class PlusAndTimes(Shares):
    def test_plus(self):
        for one in SHARES:
            for other in SHARES:
                self.need_told(plus(one, other), fraction(one) + fraction(other))
        self.assertEqual(plus((1, 6), (1, 3)), (1, 2))
        self.assertEqual(plus((1, 2), (-1, 2)), (0, 1))
        self.assertEqual(plus((FAR, 3), (-FAR, 3)), (0, 1))

    def test_times(self):
        for one in SHARES:
            for other in SHARES:
                self.need_told(times(one, other), fraction(one) * fraction(other))
        self.assertEqual(times((2, 3), (-3, 4)), (-1, 2))
        self.assertEqual(times((0, 1), (-3, 4)), (0, 1))

    def test_small_ones_one_with_each(self):
        small = [(a, b) for a in range(-5, 6) for b in range(1, 6) if is_share((a, b))]
        for one in small:
            for other in small:
                self.need_told(plus(one, other), fraction(one) + fraction(other))
                self.need_told(times(one, other), fraction(one) * fraction(other))

    def test_what_is_no_fraction(self):
        for call in (plus, times):
            for at, thing in enumerate([*NO_SHARES, *NOTHINGS]):
                with self.subTest(call=call.__name__, at=at):
                    need_refused(self, BadNumber, call, thing, (1, 2))
                    need_refused(self, BadNumber, call, (1, 2), thing)
                    need_refused(self, BadNumber, call, (0, 1), thing)
                    need_refused(self, BadNumber, call, thing, thing)

    def test_by_names(self):
        self.assertEqual(need_same_by_name(self, plus, ("one", "other"), ((1, 2), (1, 3))), (5, 6))
        self.assertEqual(need_same_by_name(self, times, ("one", "other"), ((1, 2), (-1, 3))), (-1, 6))


if __name__ == "__main__":
    unittest.main()
