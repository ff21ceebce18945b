"""Promise 14 as slotsure.plans tells it: PLANS, OPEN names, COSTS, and the WORTH by any PLAN."""

import itertools
import random
import time
import unittest

from helper import (
    BARE_GEAR, GEAR, NOTHINGS, SMALL_GEAR, SUM_GEAR, a_term, few_arrays, free_of, kinds_of, need_refused,
    need_same_by_name, places, put, spoiled, terms,
)
from slotsure.arrays import need_arrays, worth
from slotsure.errors import BadArrays, BadGear, BadPlan, BadSizes, BadTerm, TooGreat
from slotsure.plans import cost, least_plan, worth_by

NO_GEARS = (*NOTHINGS, (), (("b", "a"), ()), [GEAR[0], GEAR[1]])
NO_SIZES = (*NOTHINGS, (), (2,), (0, 2), (2, 25), (True, 2), [2, 2])
NO_TERMS = (*NOTHINGS, (("x", ()),), (("m", ("a",)),), [("s", ())], (("s", ()),) * 7, (("m", ("a", "b")),) * 2)
NONE = ((),) * 8
CHAIN = (("m", ("a", "b")), ("m", ("b", "c")), ("m", ("c", "d")))
ONE = (1, 1)


def all_plans(row):
    """Each PLAN of these FACTORS, the pairs both ways about."""
    if len(row) == 1:
        yield row[0]
        return
    for many in range(1, len(row)):
        for left in itertools.combinations(row, many):
            right = tuple(at for at in row if at not in left)
            for one in all_plans(left):
                for other in all_plans(right):
                    yield (one, other)


def some_plan(rnd, row):
    if len(row) == 1:
        return row[0]
    row = list(row)
    rnd.shuffle(row)
    many = rnd.randint(1, len(row) - 1)
    return (some_plan(rnd, row[:many]), some_plan(rnd, row[many:]))


def turned_about(plan):
    return tuple(turned_about(part) for part in reversed(plan)) if isinstance(plan, tuple) else plan


def leaves(plan):
    if isinstance(plan, tuple):
        return [at for part in plan for at in leaves(part)]
    return [plan]


def plain_cost(gear, sizes, term, plan):
    """The COST straight from the words of 14."""
    if not isinstance(plan, tuple):
        return 0
    size_of = {}
    for box, names in term:
        for name, (space, _) in zip(names, kinds_of(gear, box)):
            size_of[name] = sizes[gear[0].index(space)]
    free = [name for name, _, _ in free_of(gear, term)]
    names = set()
    for part in plan:
        own = leaves(part)
        inside = {name for at in own for name in term[at][1]}
        outside = {name for at, (_, row) in enumerate(term) if at not in own for name in row}
        names |= {name for name in inside if name in free or name in outside}
    total = 1
    for name in names:
        total *= size_of[name]
    return total + sum(plain_cost(gear, sizes, term, part) for part in plan)


def plans_one_way(row):
    """Each PLAN of these FACTORS, of the two ways about each pair only one."""
    if len(row) == 1:
        yield row[0]
        return
    for many in range(len(row) - 1):
        for beside in itertools.combinations(row[1:], many):
            left = (row[0], *beside)
            for one in plans_one_way(left):
                for other in plans_one_way(tuple(at for at in row if at not in left)):
                    yield (one, other)


class Cost(unittest.TestCase):
    def need_cost(self, gear, sizes, term, plan, wanted=None):
        names = ("gear", "sizes", "term", "plan")
        told = need_same_by_name(self, cost, names, (gear, sizes, term, plan))
        self.assertIs(type(told), int)
        self.assertEqual(told, plain_cost(gear, sizes, term, plan) if wanted is None else wanted)

    def test_by_hand(self):
        for term, plan, wanted in (
            ((), None, 0), ((("s", ()),), 0, 0), ((("m", ("a", "b")),), 0, 0), ((("m", ("a", "a")),), 0, 0),
            ((("s", ()), ("s", ())), (0, 1), 1), ((("s", ()), ("s", ())), (1, 0), 1),
            (CHAIN[:2], (0, 1), 27), (CHAIN[:2], (1, 0), 27),
            # a b c, then a c d.
            (CHAIN, ((0, 1), 2), 54), (CHAIN, (0, (1, 2)), 54), (CHAIN, (2, (1, 0)), 54),
            # a b c d, then a b c d once more.
            (CHAIN, ((0, 2), 1), 81 + 81), (CHAIN, (1, (2, 0)), 81 + 81),
            # b and c stand FREE in no pair: each goes with the pair of it.
            ((("m", ("a", "b")), ("m", ("b", "a"))), (0, 1), 9),
            ((("m", ("a", "b")), ("m", ("b", "c")), ("m", ("c", "a"))), ((0, 1), 2), 27 + 9),
            # JOINED within one FACTOR: OPEN nowhere.
            ((("m", ("a", "a")), ("m", ("b", "b"))), (0, 1), 1),
            ((("q", ("a", "b", "c", "a")), ("m", ("c", "d"))), (0, 1), 27),
            # Of unlike SIZES.
            ((("t", ("a", "b")), ("n", ("c", "d"))), (0, 1), 3 * 5 * 3 * 5),
            ((("o", ("b",)), ("t", ("a", "b"))), (0, 1), 15),
        ):
            gear = GEAR if "o" not in [box for box, _ in term] else SUM_GEAR
            self.need_cost(gear, (3, 5), term, plan, wanted)
            self.need_cost(gear, (3, 5), term, turned_about(plan), wanted)

    def test_many_terms(self):
        rnd = random.Random(40)
        for gear in (GEAR, SUM_GEAR):
            for term in terms(rnd, gear, 6, 60):
                for _ in range(4):
                    sizes = (rnd.randint(1, 24), rnd.randint(1, 24))
                    plan = some_plan(rnd, range(len(term))) if term else None
                    self.need_cost(gear, sizes, term, plan)
                    self.need_cost(gear, sizes, term, turned_about(plan), plain_cost(gear, sizes, term, plan))

    def test_all_plans_of_some(self):
        for term in (CHAIN, (("q", ("a", "b", "c", "d")), ("m", ("c", "e")), ("s", ()), ("f", ("b", "a")))):
            for plan in all_plans(range(len(term))):
                self.need_cost(GEAR, (2, 3), term, plan)


class BadPlans(unittest.TestCase):
    def need_bad(self, term, plan):
        need_refused(self, BadPlan, cost, GEAR, (2, 2), term, plan)
        need_refused(self, BadPlan, worth_by, GEAR, (2, 2), NONE, term, plan)

    def test_by_hand(self):
        for plan in (
            # Left out, twice, one that isn't there.
            0, 1, (0, 1), (1, 2), (0, 0), ((0, 1), 1), ((0, 1), 0), (0, (1, 1)), ((0, 1), 3), (0, (1, -1)),
            ((0, 1), (2, 0)), ((0, 1), (2, 3)), (((0, 1), 2), 0), ((0, 1), 10 ** 30),
            # No numbers, no pairs.
            None, (None, 0), ((0, 1), None), ((0, None), (1, 2)), (0, 1, 2), ((0, 1), 2, None), ((0, 1, 2),), (),
            ((), 0),
            ((0, 1), ()), ((0, 1), (2,)), [0, [1, 2]], ([0, 1], 2), ((0, 1), [2]), (False, (True, 2)), ((0, True), 2),
            ((0, 1.0), 2), ("0", ("1", "2")), "012", {0: 1}, ((0, 1), {2}), ((0, (1,)), 2),
        ):
            self.need_bad(CHAIN, plan)
        for plan in (0, (), (None, None), (None,), False, 1, -1, (0, 0), [], "", (0, None)):
            self.need_bad((), plan)
        for plan in (None, 1, -1, False, True, (0,), (0, 0), (0, None), (0, 1), [0], "0", 0.0, ()):
            self.need_bad((("s", ()),), plan)

    def test_things_of_any_kind_at_each_place(self):
        for plan in (((0, 1), 2), (2, (1, 0))):
            for at, thing in enumerate(spoiled(plan)):
                with self.subTest(at=at):
                    self.need_bad(CHAIN, thing)
            for way in places(plan):
                for other in (0, 1, 2, 3, (0, 1), (1, 2), (2, 0)):
                    made = put(plan, way, other)
                    if sorted(leaves(made)) == [0, 1, 2]:
                        self.assertGreater(cost(GEAR, (2, 2), CHAIN, made), 0)
                    else:
                        self.need_bad(CHAIN, made)
        for thing in NOTHINGS:
            if thing is not None:
                self.need_bad((), thing)

    def test_deep_ones_within_seconds(self):
        start = time.perf_counter()
        for leaf in (0, 1, None, ()):
            plan = leaf
            for _ in range(39):
                plan = (plan, plan)
            self.need_bad(CHAIN, plan)
            plan = leaf
            for _ in range(39):
                plan = (2, plan)
            self.need_bad(CHAIN, plan)
        self.assertLess(time.perf_counter() - start, 5)


class LeastPlan(unittest.TestCase):
    def need_least(self, gear, sizes, term):
        told = need_same_by_name(self, least_plan, ("gear", "sizes", "term"), (gear, sizes, term))
        self.assertIs(type(told), tuple)
        total, plan = told
        self.assertIs(type(total), int)
        self.assertEqual(cost(gear, sizes, term, plan), total)
        return total

    def test_no_factors_and_one(self):
        for gear in (GEAR, SMALL_GEAR, BARE_GEAR):
            self.assertEqual(least_plan(gear, (2,) * len(gear[0]), ()), (0, None))
        self.assertEqual(least_plan(GEAR, (2, 2), CHAIN[:1]), (0, 0))

    def test_no_plan_costs_less(self):
        rnd = random.Random(41)
        for most, many in ((3, 20), (4, 20)):
            for term in terms(rnd, GEAR, most, many):
                sizes = (rnd.randint(1, 9), rnd.randint(1, 9))
                total = self.need_least(GEAR, sizes, term)
                if term:
                    self.assertEqual(total, min(
                        plain_cost(GEAR, sizes, term, plan) for plan in all_plans(range(len(term)))
                    ))

    def test_no_plan_of_six_factors_costs_less(self):
        plans = list(plans_one_way(range(6)))
        self.assertEqual(len(plans), 945)
        rnd = random.Random(42)
        ring = tuple(("m", (one, other)) for one, other in zip("abcdef", "bcdefa"))
        rows = [ring]
        while len(rows) < 14:
            rows.extend(term for term in terms(rnd, GEAR, 6, 5) if len(term) == 6)
        for term in rows:
            sizes = (rnd.randint(1, 24), rnd.randint(1, 24))
            told = self.need_least(GEAR, sizes, term)
            self.assertEqual(told, min(plain_cost(GEAR, sizes, term, plan) for plan in plans))

    def test_a_ring_is_best_joined_by_neighbours(self):
        ring = tuple(("m", (one, other)) for one, other in zip("abcd", "bcda"))
        self.assertEqual(least_plan(GEAR, (10, 1), ring)[0], 1000 + 1000 + 100)


class WorthBy(unittest.TestCase):
    def need_worth(self, gear, sizes, arrays, term, plan):
        names = ("gear", "sizes", "arrays", "term", "plan")
        told = need_same_by_name(self, worth_by, names, (gear, sizes, arrays, term, plan))
        self.assertIs(type(told), list)
        self.assertEqual(told, worth(gear, sizes, arrays, (free_of(gear, term), ((ONE, term),))))
        return told

    def test_no_factors(self):
        self.assertEqual(self.need_worth(GEAR, (2, 2), NONE, (), None), [((), ONE)])

    def test_by_every_plan(self):
        rnd = random.Random(43)
        seen = 0
        for gear in (GEAR, SUM_GEAR):
            for term in terms(rnd, gear, 4, 25):
                sizes = (rnd.randint(1, 3), rnd.randint(1, 3))
                arrays = few_arrays(rnd, gear, sizes, 8)
                plans = list(all_plans(range(len(term)))) if term else [None]
                for plan in rnd.sample(plans, min(len(plans), 12)):
                    seen += len(self.need_worth(gear, sizes, arrays, term, plan)) > 0
        self.assertGreater(seen, 100)

    def test_all_plans_of_one_term(self):
        rnd = random.Random(44)
        term = (("q", ("a", "b", "c", "d")), ("m", ("c", "a")), ("m", ("k", "k")), ("m", ("d", "x")))
        arrays = few_arrays(rnd, GEAR, (3, 1), 30)
        need_arrays(GEAR, (3, 1), arrays)
        for plan in all_plans(range(4)):
            self.assertGreater(len(self.need_worth(GEAR, (3, 1), arrays, term, plan)), 0)

    def test_six_factors(self):
        rnd = random.Random(45)
        seen = 0
        for _ in range(40):
            term = a_term(rnd, GEAR, 6)
            sizes = (rnd.randint(1, 3), rnd.randint(1, 2))
            arrays = few_arrays(rnd, GEAR, sizes, 2)
            for _ in range(3):
                plan = some_plan(rnd, range(len(term))) if term else None
                seen += len(self.need_worth(GEAR, sizes, arrays, term, plan)) > 0
        self.assertGreater(seen, 10)

    def test_new_lists_each_time(self):
        told = worth_by(GEAR, (2, 2), NONE, (), None)
        told.clear()
        self.assertEqual(worth_by(GEAR, (2, 2), NONE, (), None), [((), ONE)])

    def test_just_two_hundred_thousand_wide(self):
        rows = tuple((row, ONE) for row in list(itertools.product(range(24), repeat=2))[:400])
        arrays = tuple(rows if box == "m" else rows[:0] for box, _, _ in GEAR[1])
        pair = (("m", ("a", "b")), ("m", ("c", "d")))
        self.assertEqual(len(worth_by(GEAR, (24, 1), arrays, pair, (1, 0))), 160000)
        term = (*pair, ("m", ("e", "f")))
        for plan in (((0, 1), 2), (2, (1, 0))):
            need_refused(self, TooGreat, worth_by, GEAR, (24, 1), arrays, term, plan, field=("most", 200000))
        need_refused(self, BadPlan, worth_by, GEAR, (24, 1), arrays, term, (0, 1))
        # Where a BOX has no ROWS it isn't WIDE, however many the others have.
        for at in range(6):
            names = "abcdefghij"
            term = [("m", (names[2 * k], names[2 * k + 1])) for k in range(5)]
            term.insert(at, ("s", ()))
            start = time.perf_counter()
            for plan in ((((((0, 1), 2), 3), 4), 5), (0, (1, (2, (3, (4, 5)))))):
                self.assertEqual(worth_by(GEAR, (24, 1), arrays, tuple(term), plan), [])
            self.assertLess(time.perf_counter() - start, 1)
        # 400 times 500 is just as WIDE as may be, 448 times 447 a little more.
        gear = (("v",), (("a", (("v", "up"),), ()), ("b", (("v", "up"),) * 2, ()), ("c", (("v", "up"),) * 3, ())))
        many = {"a": 20, "b": 400, "c": 25}
        for last, fits in ((25, True), (26, False)):
            many["c"] = last
            told = tuple(
                tuple((row, ONE) for row in list(itertools.product(range(24), repeat=len(kinds)))[:many[box]])
                for box, kinds, _ in gear[1]
            )
            term = (("a", ("a",)), ("b", ("b", "c")), ("c", ("d", "e", "f")))
            if fits:
                self.assertEqual(len(worth_by(gear, (24,), told, term, ((0, 1), 2))), 200000)
            else:
                need_refused(self, TooGreat, worth_by, gear, (24,), told, term, ((0, 1), 2), field=("most", 200000))


class RefusalsInOrder(unittest.TestCase):
    def test_bad_gear(self):
        for gear in NO_GEARS:
            need_refused(self, BadGear, cost, gear, (2, 2), CHAIN, ((0, 1), 2))
            need_refused(self, BadGear, cost, gear, None, None, None)
            need_refused(self, BadGear, least_plan, gear, (2, 2), CHAIN)
            need_refused(self, BadGear, least_plan, gear, None, None)
            need_refused(self, BadGear, worth_by, gear, (2, 2), NONE, CHAIN, ((0, 1), 2))
            need_refused(self, BadGear, worth_by, gear, None, None, None, None)

    def test_bad_sizes(self):
        for sizes in NO_SIZES:
            need_refused(self, BadSizes, cost, GEAR, sizes, CHAIN, ((0, 1), 2))
            need_refused(self, BadSizes, cost, GEAR, sizes, None, None)
            need_refused(self, BadSizes, least_plan, GEAR, sizes, CHAIN)
            need_refused(self, BadSizes, least_plan, GEAR, sizes, None)
            need_refused(self, BadSizes, worth_by, GEAR, sizes, NONE, CHAIN, ((0, 1), 2))
            need_refused(self, BadSizes, worth_by, GEAR, sizes, None, None, None)

    def test_bad_arrays(self):
        for arrays in (*NOTHINGS, NONE[1:], put(NONE, (2,), (((2, 0), ONE),)), list(NONE)):
            need_refused(self, BadArrays, worth_by, GEAR, (2, 2), arrays, CHAIN, ((0, 1), 2))
            need_refused(self, BadArrays, worth_by, GEAR, (2, 2), arrays, None, None)

    def test_bad_term(self):
        for term in NO_TERMS:
            need_refused(self, BadTerm, cost, GEAR, (2, 2), term, 0)
            need_refused(self, BadTerm, cost, GEAR, (2, 2), term, ())
            need_refused(self, BadTerm, least_plan, GEAR, (2, 2), term)
            need_refused(self, BadTerm, worth_by, GEAR, (2, 2), NONE, term, 0)
            need_refused(self, BadTerm, worth_by, GEAR, (2, 2), NONE, term, ())


if __name__ == "__main__":
    unittest.main()
