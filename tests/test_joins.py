"""Promise 7 as slotsure.joins tells it: FREE names joined, exchanged, made even and odd."""

import copy
import itertools
import random
import unittest
from fractions import Fraction

from helper import (
    BARE_GEAR, GEAR, NOTHINGS, SUM_GEAR, a_sum, brute_worth, names_of, need_refused, need_same_by_name, normal,
    some_arrays,
)
from slotsure.errors import BadGear, BadName, BadSum, TooGreat, Unfit
from slotsure.joins import closed, even, odd, renamed
from slotsure.sums import need_sum

AB = (("a", "v", "up"), ("b", "v", "down"))
STRAIGHT = ((2, 3), (("m", ("a", "b")),))
ROUND = ((-1, 2), (("m", ("a", "c")), ("m", ("c", "b"))))
SUM = (AB, (STRAIGHT, ROUND))
FOUR = tuple((name, "v", "up") for name in "abcd")
SIZES = {"v": 2, "w": 2}

FREES = [
    AB,
    (("a", "v", "up"), ("b", "v", "up"), ("c", "v", "down")),
    (("a", "v", "down"), ("c", "v", "up"), ("d", "w", "up"), ("zz", "w", "down")),
    FOUR,
    (("a", "v", "down"), ("b", "v", "down"), ("c", "v", "up"), ("d", "v", "up")),
]

# No SUM of GEAR, and no GEAR.
NO_SUMS = (
    None, (), (AB,), (AB, []), ((AB[1], AB[0]), ()), (AB, (STRAIGHT,) * 401), (AB, (((2, 2), STRAIGHT[1]),)), [AB, ()],
)
NO_GEARS = (None, (), (("b", "a"), ()), [GEAR[0], GEAR[1]])


class JoinCase(unittest.TestCase):
    def worths(self, gear, arrays, given):
        need_sum(gear, given)
        return brute_worth(gear, SIZES, arrays, given)

    def need_refusals_ahead(self, call, things):
        """Needs BadGear and BadSum, whatever comes behind."""
        for gear in (*NOTHINGS, *NO_GEARS):
            for behind in ([None] * len(things), things):
                need_refused(self, BadGear, call, gear, SUM, *behind)
                need_refused(self, BadGear, call, gear, None, *behind)
        for given in (*NOTHINGS, *NO_SUMS):
            for behind in ([None] * len(things), things):
                need_refused(self, BadSum, call, GEAR, given, *behind)


class Closed(JoinCase):
    def test_by_hand(self):
        self.assertEqual(closed(GEAR, SUM, "a", "b"), ((), (
            ((2, 3), (("m", ("a", "a")),)), ((-1, 2), (("m", ("a", "c")), ("m", ("c", "a")))),
        )))
        self.assertEqual(closed(GEAR, SUM, "b", "a")[1][0], ((2, 3), (("m", ("b", "b")),)))
        self.assertEqual(closed(GEAR, (AB, ()), "b", "a"), ((), ()))

    def test_the_first_in_the_place_of_both(self):
        free = (("a", "v", "down"), ("c", "v", "up"), ("d", "w", "up"), ("zz", "w", "down"))
        g, o = ("g", ("c",)), ("o", ("d",))
        given = (free, (((1, 2), (("t", ("a", "zz")), g, o)),))
        self.assertEqual(closed(SUM_GEAR, given, "c", "a"), (free[2:], (((1, 2), (("t", ("c", "zz")), g, o)),)))
        self.assertEqual(
            closed(SUM_GEAR, given, "zz", "d"), (free[:2], (((1, 2), (("t", ("a", "zz")), g, ("o", ("zz",)))),)),
        )

    def test_the_worth(self):
        rnd = random.Random(20)
        for free in FREES:
            given = a_sum(rnd, SUM_GEAR, free, 4, 3)
            arrays = some_arrays(rnd, SUM_GEAR, SIZES)
            for (name, space, side), (other, ground, way) in itertools.permutations(free, 2):
                if space != ground or side == way:
                    need_refused(self, Unfit, closed, SUM_GEAR, given, name, other, field=("others", (name, other)))
                    continue
                things = (SUM_GEAR, given, name, other)
                told = need_same_by_name(self, closed, ("gear", "given", "name", "other"), things)
                self.assertEqual(told[0], tuple(row for row in free if row[0] not in (name, other)))
                self.assertEqual(len(told[1]), len(given[1]))
                for _, term in told[1]:
                    self.assertEqual(names_of(term).count(name), 2)
                    self.assertNotIn(other, names_of(term))
                wanted = {}
                for row, worth in self.worths(SUM_GEAR, arrays, given).items():
                    at = {key: number for (key, _, _), number in zip(free, row)}
                    if at[name] == at[other]:
                        place = tuple(at[key] for key, _, _ in told[0])
                        wanted[place] = wanted.get(place, 0) + worth
                wanted = {place: worth for place, worth in wanted.items() if worth != 0}
                self.assertEqual(self.worths(SUM_GEAR, arrays, told), wanted)

    def test_bad_name(self):
        for thing in (*NOTHINGS, "c", "x", "aa", "ab", "v", "up", 0, 1, ("a",), (), ["a"], ("a", "b")):
            need_refused(self, BadName, closed, GEAR, SUM, thing, "b")
            need_refused(self, BadName, closed, GEAR, SUM, "a", thing)
            need_refused(self, BadName, closed, GEAR, SUM, thing, thing)
            need_refused(self, BadName, closed, GEAR, ((), ()), thing, "a")
        for name in ("a", "b"):
            need_refused(self, BadName, closed, GEAR, SUM, name, name)

    def test_unfit(self):
        free = (("a", "v", "up"), ("b", "v", "up"), ("c", "v", "down"), ("d", "w", "down"), ("e", "w", "up"))
        fits = {("a", "c"), ("c", "a"), ("b", "c"), ("c", "b"), ("d", "e"), ("e", "d")}
        for pair in itertools.permutations("abcde", 2):
            if pair in fits:
                rest = tuple(row for row in free if row[0] not in pair)
                self.assertEqual(closed(GEAR, (free, ()), *pair), (rest, ()))
            else:
                need_refused(self, Unfit, closed, GEAR, (free, ()), *pair, field=("others", pair))

    def test_refusals_ahead(self):
        self.need_refusals_ahead(closed, ["a", "b"])
        self.need_refusals_ahead(closed, ["a", "a"])


class Renamed(JoinCase):
    def test_by_hand(self):
        self.assertEqual(renamed(GEAR, SUM, []), SUM)
        self.assertEqual(renamed(GEAR, SUM, ()), SUM)
        self.assertEqual(renamed(GEAR, SUM, [("a", "a")]), SUM)
        self.assertEqual(renamed(GEAR, SUM, [("a", "z")]), ((AB[1], ("z", "v", "up")), (
            ((2, 3), (("m", ("z", "b")),)), ((-1, 2), (("m", ("z", "c")), ("m", ("c", "b")))),
        )))
        self.assertEqual(renamed(GEAR, SUM, (("a", "b"), ("b", "a"))), ((("a", "v", "down"), ("b", "v", "up")), (
            ((2, 3), (("m", ("b", "a")),)), ((-1, 2), (("m", ("b", "c")), ("m", ("c", "a")))),
        )))
        self.assertEqual(renamed(GEAR, (FOUR, ()), [("a", "b"), ("b", "c"), ("c", "a")])[0], FOUR)

    def test_a_new_name_that_is_joined_in_some_parts(self):
        free, parts = renamed(GEAR, SUM, [("a", "c")])
        self.assertEqual(free, (("b", "v", "down"), ("c", "v", "up")))
        self.assertEqual(parts[0], ((2, 3), (("m", ("c", "b")),)))
        self.assertEqual(normal(parts[1][1]), (("m", ("c", 0)), ("m", (0, "b"))))
        self.assertEqual(len(set(names_of(parts[1][1]))), 3)

    def test_the_worth(self):
        rnd = random.Random(21)
        for free in FREES:
            names = [name for name, _, _ in free]
            given = a_sum(rnd, SUM_GEAR, free, 5, 3)
            arrays = some_arrays(rnd, SUM_GEAR, SIZES)
            pool = [*names, "b", "c", "d", "e", "f", "g", "aa", "v", "abcdefgh", "zzzzzzzz", "y"]
            for _ in range(12):
                olds = rnd.sample(names, rnd.randint(0, len(names)))
                stay = [name for name in names if name not in olds]
                news = rnd.sample(sorted(set(pool) - set(stay)), len(olds))
                pairs = list(zip(olds, news))
                told = need_same_by_name(self, renamed, ("gear", "given", "pairs"), (SUM_GEAR, given, pairs))
                self.assertEqual(renamed(SUM_GEAR, given, tuple(pairs)), told)
                changes = dict(pairs)
                self.assertEqual(told[0], tuple(sorted((changes.get(name, name), *kind) for name, *kind in free)))
                self.assertEqual(len(told[1]), len(given[1]))
                wanted = {}
                for row, worth in self.worths(SUM_GEAR, arrays, given).items():
                    at = {changes.get(name, name): number for name, number in zip(names, row)}
                    wanted[tuple(at[name] for name, _, _ in told[0])] = worth
                self.assertEqual(self.worths(SUM_GEAR, arrays, told), wanted)

    def test_bad_name(self):
        for pairs in (
            # OLD that isn't FREE, or stands twice.
            [("c", "x")], [("x", "y")], [("a", "x"), ("a", "y")], [("a", "x"), ("a", "x")], [("a", "a"), ("a", "a")],
            [("a", "x"), ("x", "y")], [("c", "c")], [("", "x")], [("A", "x")],
            # NEW that is no NAME.
            [("a", "")], [("a", "X")], [("a", "abcdefghi")], [("a", "x y")], [("a", "a1")],
            # Two FREE names alike.
            [("a", "b")], [("b", "a")], [("a", "x"), ("b", "x")], [("a", "b"), ("b", "b")], [("b", "b"), ("a", "b")],
            # No tuples of two.
            [["a", "x"]], [("a",)], [("a", "x", "y")], ["ax"], [()], [("a", "x"), ["b", "y"]], [("a", "x"), None],
            ("a", "x"),
            # No list and no tuple.
            {"a": "x"}, {("a", "x")}, "ax", "", {}, set(), 0, frozenset({("a", "x")}), iter([("a", "x")]),
            zip("a", "x"),
        ):
            need_refused(self, BadName, renamed, GEAR, SUM, pairs)
            if type(pairs) == list:
                need_refused(self, BadName, renamed, GEAR, SUM, tuple(pairs))
        need_refused(self, BadName, renamed, GEAR, ((), ()), [("a", "b")])

    def test_bad_name_of_things_of_any_kind(self):
        for at, thing in enumerate(NOTHINGS):
            with self.subTest(at=at):
                # No pairs at all are told by an empty list.
                if not (type(thing) == list and len(thing) == 0):
                    need_refused(self, BadName, renamed, GEAR, SUM, thing)
                for pairs in ([thing], [(thing, "x")], [("a", thing)], [("a", "x"), thing], [("a", "x"), ("b", thing)]):
                    need_refused(self, BadName, renamed, GEAR, SUM, pairs)
                    need_refused(self, BadName, renamed, GEAR, SUM, tuple(pairs))

    def test_pairs_stay_and_are_not_kept(self):
        pairs = [("a", "x"), ("b", "y")]
        told = renamed(GEAR, SUM, pairs)
        self.assertEqual(pairs, [("a", "x"), ("b", "y")])
        pairs.clear()
        self.assertEqual([name for name, _, _ in told[0]], ["x", "y"])
        pairs = [("a", "x"), ["b", "y"]]
        before = copy.deepcopy(pairs)
        need_refused(self, BadName, renamed, GEAR, SUM, pairs)
        self.assertEqual(pairs, before)

    def test_refusals_ahead(self):
        self.need_refusals_ahead(renamed, [[("a", "x")]])
        self.need_refusals_ahead(renamed, [[("a", "b")]])


def sign_of(order):
    """-1 where the order is one of an odd number of exchanges of two, by making these."""
    row = list(order)
    sign = 1
    for k in range(len(row)):
        while row[k] != k:
            at = row[k]
            row[k], row[at] = row[at], row[k]
            sign = -sign
    return sign


class EvenAndOdd(JoinCase):
    def parts_of(self, call, given, names):
        """The PARTS that are wanted, JOINED names called by numbers."""
        wanted = []
        orders = list(itertools.permutations(range(len(names))))
        for share, term in given[1]:
            for order in orders:
                changes = {names[k]: names[at] for k, at in enumerate(order)}
                made = tuple((box, tuple(changes.get(name, name) for name in row)) for box, row in term)
                sign = sign_of(order) if call is odd else 1
                wanted.append((Fraction(*share) * sign / len(orders), normal(tuple(sorted(made)))))
        return sorted(wanted)

    def need_parts(self, call, gear, given, names):
        told = need_same_by_name(self, call, ("gear", "given", "names"), (gear, given, names))
        need_sum(gear, told)
        self.assertEqual(told[0], given[0])
        found = sorted((Fraction(*share), normal(tuple(sorted(term)))) for share, term in told[1])
        self.assertEqual(found, self.parts_of(call, given, names))
        return told

    def test_by_hand(self):
        free = (("a", "v", "up"), ("b", "v", "up"))
        given = (free, (((1, 2), (("e", ("a", "b")),)),))
        straight, turned = (("e", ("a", "b")),), (("e", ("b", "a")),)
        self.assertEqual(sorted(even(GEAR, given, ("a", "b"))[1]), [((1, 4), straight), ((1, 4), turned)])
        self.assertEqual(sorted(odd(GEAR, given, ("b", "a"))[1]), [((-1, 4), turned), ((1, 4), straight)])
        self.assertEqual(even(GEAR, SUM, ("a",)), SUM)
        self.assertEqual(odd(GEAR, SUM, ("b",)), SUM)
        self.assertEqual(even(GEAR, (AB, ()), ("a",)), (AB, ()))

    def test_over_one_to_four_names(self):
        for many in (1, 2, 3, 4):
            free = FOUR[:many]
            term = tuple(("g", (name,)) for name, _, _ in free)
            for names in itertools.permutations("abcd"[:many]):
                for call in (even, odd):
                    told = self.need_parts(call, SUM_GEAR, (free, (((5, 3), term), ((0, 1), term))), names)
                    self.assertEqual(len(told[1]), 2 * (1, 2, 6, 24)[many - 1])

    def test_over_some_of_the_names(self):
        rnd = random.Random(22)
        for free in FREES:
            given = a_sum(rnd, SUM_GEAR, free, 5, 3)
            for many in (1, 2, 3):
                for rows in itertools.permutations(free, many):
                    names = tuple(name for name, _, _ in rows)
                    for call in (even, odd):
                        if len({row[1:] for row in rows}) == 1:
                            self.need_parts(call, SUM_GEAR, given, names)
                        else:
                            need_refused(self, Unfit, call, SUM_GEAR, given, names, field=("others", names))

    def test_the_worth(self):
        rnd = random.Random(23)
        for free in FREES:
            given = a_sum(rnd, SUM_GEAR, free, 4, 2)
            arrays = some_arrays(rnd, SUM_GEAR, SIZES)
            worth = self.worths(SUM_GEAR, arrays, given)
            names = tuple(name for name, space, side in free if (space, side) == ("v", "up"))
            rows = [name for name, _, _ in free]
            for call in (even, odd):
                wanted = {}
                for place in itertools.product(range(2), repeat=len(free)):
                    at = dict(zip(rows, place))
                    orders = list(itertools.permutations(range(len(names))))
                    for order in orders:
                        moved = {**at, **{names[k]: at[names[turn]] for k, turn in enumerate(order)}}
                        found = worth.get(tuple(moved[name] for name in rows), 0)
                        sign = sign_of(order) if call is odd else 1
                        wanted[place] = wanted.get(place, 0) + Fraction(sign, len(orders)) * found
                wanted = {place: found for place, found in wanted.items() if found != 0}
                self.assertEqual(self.worths(SUM_GEAR, arrays, call(SUM_GEAR, given, names)), wanted)

    def test_bad_name(self):
        free = tuple((name, "v", "up") for name in "abcde")
        given = (free, (((1, 1), tuple(("g", (name,)) for name in "abcde")),))
        for call in (even, odd):
            for names in (
                (), tuple("abcde"), ("a", "a"), ("a", "b", "a"), ("x",), ("a", "x"), ("x", "a"), ["a", "b"], "ab", "a",
                {"a": 1},
                {"a", "b"}, ("A",), ("",), ("a", 1), (("a",),), (["a"],), ("a", ["b"]), ("a", {}), ("ab",), ("aa",),
                ("v",), (0,),
                ("a", "b", "c", "d", "a"), iter("ab"), 2, ("a", None, "b"),
            ):
                need_refused(self, BadName, call, SUM_GEAR, given, names)
            for at, thing in enumerate(NOTHINGS):
                with self.subTest(call=call.__name__, at=at):
                    need_refused(self, BadName, call, SUM_GEAR, given, thing)
                    need_refused(self, BadName, call, SUM_GEAR, given, (thing,))
                    need_refused(self, BadName, call, SUM_GEAR, given, ("a", thing))
                    need_refused(self, BadName, call, SUM_GEAR, given, (thing, thing))
            # A JOINED name is none; BadName is looked at ahead of Unfit and TooGreat.
            need_refused(self, BadName, call, GEAR, SUM, ("c",))
            need_refused(self, BadName, call, GEAR, SUM, ("a", "b", "c"))
            need_refused(self, BadName, call, GEAR, (AB, (STRAIGHT,) * 400), ("a", "a"))
            self.assertEqual(len(call(SUM_GEAR, given, tuple("abcd"))[1]), 24)

    def test_unfit_as_handed_in(self):
        free = (("a", "v", "up"), ("b", "v", "down"), ("c", "v", "up"), ("d", "w", "up"))
        for call in (even, odd):
            for names in map(tuple, ("ab", "ba", "cba", "da", "acd", "dcba", "cab")):
                need_refused(self, Unfit, call, GEAR, (free, ()), names, field=("others", names))
            self.assertEqual(call(GEAR, (free, ()), ("c", "a")), (free, ()))
            need_refused(self, Unfit, call, GEAR, (AB, (STRAIGHT,) * 400), ("b", "a"), field=("others", ("b", "a")))

    def test_too_great(self):
        for call in (even, odd):
            for many, most in ((1, 400), (2, 200), (3, 66), (4, 16)):
                names = tuple("abcd"[:many])
                part = ((1, 1), tuple(("g", (name,)) for name in names))
                self.assertLessEqual(len(call(SUM_GEAR, (FOUR[:many], (part,) * most), names)[1]), 400)
                if many > 1:
                    given = (FOUR[:many], (((0, 1), part[1]),) * (most + 1))
                    need_refused(self, TooGreat, call, SUM_GEAR, given, names, field=("most", 400))

    def test_refusals_ahead(self):
        for call in (even, odd):
            self.need_refusals_ahead(call, [("a",)])
            self.need_refusals_ahead(call, [("a", "b")])


class HeavyParts(JoinCase):
    def test_weight_is_asked_by_none_of_them(self):
        # FORMS aren't looked for here.
        given = ((), (((1, 1), (("c", ()),) * 6),))
        self.assertEqual(renamed(BARE_GEAR, given, []), given)
        term = tuple(("e", (one, other)) for one, other in ("ai", "cd", "gj", "kl", "mn", "op"))
        free = tuple((name, "v", "up") for name in "acdgijklmnop")
        given = (free, (((1, 1), term),))
        self.assertEqual(len(even(GEAR, given, ("a", "c"))[1]), 2)
        self.assertEqual(len(odd(GEAR, given, ("a", "c", "p"))[1]), 6)


if __name__ == "__main__":
    unittest.main()
