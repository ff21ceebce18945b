"""Promise 2 as slotsure.gears tells it: GEARS, SLOTS, MOVES, GROUPS."""

import copy
import itertools
import unittest

from helper import (
    BARE_GEAR, BIG_GEAR, DOWN, GEAR, IN, NOTHINGS, OUT, SMALL_GEAR, UP, brute_group, need_refused, need_same_by_name,
    shortened, spoiled,
)
from slotsure.errors import BadGear, NoBox
from slotsure.gears import group, moved, need_gear, slots


def one_box(kinds, moves, spaces=("v", "w"), name="b"):
    return (spaces, ((name, kinds, moves),))


def of_boxes(*names):
    return (("v",), tuple((name, (), ()) for name in names))


GEARS = [
    GEAR, BIG_GEAR, SMALL_GEAR, BARE_GEAR,
    (("v",), (("v", (UP,), ()),)),
    (("a", "b", "c"), ()),
    (("a", "aa", "b"), (("a", (("aa", "up"), ("aa", "down")), ()),)),
    of_boxes("a", "aa", "ab", "b", "ba", "c", "d", "zzzzzzzz"),
    one_box((UP,), (((0,), 1),)),
    one_box((UP,), (((0,), -1), ((0,), -1), ((0,), 1))),
    one_box((UP, DOWN), (((0, 1), 1),)),
    one_box((UP, DOWN, UP, DOWN), (((2, 1, 0, 3), 1), ((2, 3, 0, 1), -1), ((0, 3, 2, 1), 1))),
    one_box((UP, UP, UP, UP), (((3, 2, 1, 0), -1), ((3, 2, 1, 0), -1), ((3, 2, 1, 0), -1))),
    one_box((OUT, UP, OUT), (((2, 1, 0), 1),)),
]

NO_GEARS = [
    # Not a pair of tuples.
    (), (("v",),), (("v",), (), ()), [("v",), ()], (["v"], ()), (("v",), []), ("v", ()), (("v",), "v"), (("v",), None),
    # Too many SPACES, none, not rising, alike, no NAMES.
    ((), ()), (("a", "b", "c", "d"), ()), (("b", "a"), ()), (("a", "a"), ()), (("a", "c", "b"), ()),
    (("a", "b", "b"), ()),
    (("",), ()), (("A",), ()), (("abcdefghi",), ()), (("a", 1), ()), ((1,), ()), ((("a",),), ()),
    (("b", "ab", "c"), ()),
    # Too many BOXES, not rising, alike, no triples.
    of_boxes("a", "b", "c", "d", "e", "f", "g", "h", "i"), of_boxes("b", "a"), of_boxes("a", "a"),
    of_boxes("a", "c", "b"),
    of_boxes("ab", "aa"), of_boxes("A"), of_boxes(""), of_boxes("abcdefghi"), of_boxes(None), of_boxes(["a"]),
    of_boxes({}),
    (("v",), ("a", (), ())), (("v",), (("a", ()),)), (("v",), (("a", (), (), ()),)), (("v",), (["a", (), ()],)),
    (("v",), (("a", [], ()),)), (("v",), (("a", (), []),)), (("v",), ((),)), (("v",), ("a",)),
    # SLOTS.
    one_box((UP,) * 5, ()), one_box((("x", "up"),), ()), one_box((("v", "over"),), ()), one_box((("v", "Up"),), ()),
    one_box((("up", "v"),), ()), one_box((("v",),), ()), one_box((("v", "up", "up"),), ()), one_box((["v", "up"],), ()),
    one_box(("v",), ()), one_box(("vu",), ()), one_box((("v", 1),), ()), one_box((("v", True),), ()), one_box([UP], ()),
    one_box((("v", ["up"]),), ()), one_box(((["v"], "up"),), ()), one_box((({}, "up"),), ()), one_box((("v", {}),), ()),
    one_box((("w", "up"),), (), spaces=("v",)), one_box(UP, ()), one_box((("vv", "up"),), ()),
    one_box((("", "up"),), ()),
    # MOVES.
    one_box((UP, UP), (((1, 0), 1),) * 4), one_box((UP, UP), ((1, 0), 1)), one_box((UP, UP), (((1, 0),),)),
    one_box((UP, UP), (((1, 0), 1, 1),)), one_box((UP, UP), ([(1, 0), 1],)), one_box((UP, UP), [((1, 0), 1)]),
    one_box((UP, UP), ((1, (1, 0)),)), one_box((UP, UP), ((),)), one_box((UP, UP), (1,)),
    # ORDERS.
    one_box((UP, UP), (((0,), 1),)), one_box((UP, UP), (((), 1),)), one_box((UP, UP), (((0, 1, 2), 1),)),
    one_box((UP, UP), (((0, 0), 1),)), one_box((UP, UP), (((1, 1), 1),)), one_box((UP, UP), (((0, 2), 1),)),
    one_box((UP, UP), (((1, 2), 1),)), one_box((UP, UP), (((0, -1), 1),)), one_box((UP, UP), (((-1, 0), 1),)),
    one_box((UP, UP), (((-2, -1), 1),)), one_box((UP, UP), (((True, 0), 1),)), one_box((UP, UP), (((1, False), 1),)),
    one_box((UP, UP), ((("1", "0"), 1),)), one_box((UP, UP), (("10", 1),)), one_box((UP, UP), (([1, 0], 1),)),
    one_box((UP, UP), (((1.0, 0), 1),)), one_box((UP, UP), (((1, None), 1),)), one_box((UP, UP), (((1, (0,)), 1),)),
    one_box((UP, UP), ((range(2), 1),)), one_box((UP, UP), (({0: 1, 1: 0}, 1),)),
    one_box((UP, UP), (((1, 2 ** 70), 1),)),
    one_box((), (((0,), 1),)), one_box((), (([], 1),)), one_box((), (("", 1),)), one_box((UP,) * 3, (((0, 2, 2), 1),)),
    # SIGNS.
    one_box((UP, UP), (((1, 0), 0),)), one_box((UP, UP), (((1, 0), 2),)), one_box((UP, UP), (((1, 0), -2),)),
    one_box((UP, UP), (((1, 0), True),)), one_box((UP, UP), (((1, 0), False),)), one_box((UP, UP), (((1, 0), "1"),)),
    one_box((UP, UP), (((1, 0), 1.0),)), one_box((UP, UP), (((1, 0), None),)), one_box((UP, UP), (((1, 0), (1,)),)),
    # To a SLOT of another SIDE or SPACE.
    one_box((UP, DOWN), (((1, 0), 1),)), one_box((UP, OUT), (((1, 0), 1),)), one_box((OUT, DOWN), (((1, 0), 1),)),
    one_box((UP, UP, DOWN), (((1, 2, 0), 1),)), one_box((UP, OUT, UP), (((1, 0, 2), 1),)),
    one_box((UP, UP, DOWN), (((1, 0, 2), 1), ((2, 1, 0), 1))), one_box((UP, IN, DOWN, IN), (((2, 1, 0, 3), -1),)),
]


class NeedGear(unittest.TestCase):
    def test_gears(self):
        for at, gear in enumerate(GEARS):
            with self.subTest(at=at):
                self.assertIsNone(need_same_by_name(self, need_gear, ("gear",), (gear,)))

    def test_what_is_otherwise(self):
        for at, thing in enumerate(NO_GEARS):
            with self.subTest(at=at):
                need_refused(self, BadGear, need_gear, thing)

    def test_things_of_any_kind_at_each_place(self):
        for at, gear in enumerate(GEARS):
            if gear == BIG_GEAR:
                continue
            for number, thing in enumerate(spoiled(gear)):
                with self.subTest(at=at, number=number):
                    need_refused(self, BadGear, need_gear, thing)

    def test_one_less_of_each_pair_and_triple(self):
        ways = ((), (1, 0), (1, 0, 1, 0), (1, 0, 2, 0), (1, 0, 2, 0, 0), (1, 4), (1, 4, 1, 3), (1, 4, 2, 2))
        for thing in shortened(GEAR, ways):
            need_refused(self, BadGear, need_gear, thing)

    def test_just_the_orders_that_keep_spaces_and_sides(self):
        for kinds in itertools.product((UP, DOWN, OUT, IN), repeat=3):
            for order in itertools.product(range(-1, 4), repeat=3):
                gear = one_box(kinds, ((order, 1),))
                if sorted(order) == [0, 1, 2] and all(kinds[order[k]] == kinds[k] for k in range(3)):
                    self.assertIsNone(need_gear(gear))
                else:
                    need_refused(self, BadGear, need_gear, gear)

    def test_all_others_refuse_it_first(self):
        for thing in [*NO_GEARS, *NOTHINGS]:
            need_refused(self, BadGear, slots, thing, "b")
            need_refused(self, BadGear, slots, thing, None)
            need_refused(self, BadGear, group, thing, "b")
            need_refused(self, BadGear, group, thing, [])

    def test_what_is_handed_in_stays_where_it_is_refused(self):
        for thing in ([("v",), ()], (["v"], ()), (("v",), [["a", [], []]]), one_box((UP, UP), [[[1, 0], 1]])):
            before = copy.deepcopy(thing)
            need_refused(self, BadGear, need_gear, thing)
            self.assertEqual(thing, before)


class Slots(unittest.TestCase):
    def test_slots_of_each_box(self):
        for gear in GEARS:
            for name, kinds, _ in gear[1]:
                told = need_same_by_name(self, slots, ("gear", "box"), (gear, name))
                self.assertEqual(told, kinds)
                self.assertIs(type(told), tuple)

    def test_no_box(self):
        for call in (slots, group):
            for thing in (
                "a", "b", "ee", "v", "up", "", "E", "e ", None, 0, 1, True, (), ("e",), ["e"], [], {}, 2 ** 70, b"e",
            ):
                need_refused(self, NoBox, call, GEAR, thing, field=("name", thing))
            need_refused(self, NoBox, call, SMALL_GEAR, "a", field=("name", "a"))

    def test_no_box_with_the_very_thing(self):
        for call in (slots, group):
            for thing in NOTHINGS:
                with self.assertRaises(NoBox) as held:
                    call(GEAR, thing)
                self.assertIs(held.exception.name, thing)
                with self.assertRaises(NoBox) as held:
                    call(box=thing, gear=GEAR)
                self.assertIs(held.exception.name, thing)


class Group(unittest.TestCase):
    def test_those_that_come(self):
        for at, gear in enumerate(GEARS):
            for name, _, _ in gear[1]:
                with self.subTest(at=at, name=name):
                    told = need_same_by_name(self, group, ("gear", "box"), (gear, name))
                    self.assertEqual(told, brute_group(gear, name))
                    self.assertIs(type(told), tuple)
                    self.assertEqual(list(told), sorted(set(told)))

    def test_by_hand(self):
        self.assertEqual(group(GEAR, "e"), (((0, 1), 1), ((1, 0), 1)))
        self.assertEqual(group(GEAR, "f"), (((0, 1), 1), ((1, 0), -1)))
        self.assertEqual(group(GEAR, "m"), (((0, 1), 1),))
        self.assertEqual(group(GEAR, "n"), (((0, 1), -1), ((0, 1), 1)))
        self.assertEqual(group(GEAR, "r"), (((0, 1, 2), 1), ((1, 2, 0), 1), ((2, 0, 1), 1)))
        self.assertEqual(group(GEAR, "s"), (((), 1),))
        self.assertEqual(group(BARE_GEAR, "b"), (((), 1),))
        self.assertEqual(group(BARE_GEAR, "c"), (((), -1), ((), 1)))

    def test_the_greatest_ones(self):
        self.assertEqual(len(group(BIG_GEAR, "v")), 24)
        both = one_box((UP,) * 4, (((1, 0, 2, 3), -1), ((1, 2, 3, 0), 1)))
        self.assertEqual(len(group(both, "b")), 48)
        twisted = one_box((UP,) * 4, (((1, 0, 2, 3), -1), ((1, 2, 3, 0), -1)))
        signs = {order: sign for order, sign in group(twisted, "b")}
        self.assertEqual(len(signs), 24)
        self.assertEqual(signs[(1, 0, 3, 2)], 1)
        self.assertEqual(signs[(1, 2, 0, 3)], 1)
        self.assertEqual(signs[(0, 1, 3, 2)], -1)

    def test_both_signs_where_the_box_is_nought(self):
        for moves in ((((0, 1), -1),), (((1, 0), 1), ((1, 0), -1))):
            told = group(one_box((UP, UP), moves), "b")
            self.assertIn(((0, 1), 1), told)
            self.assertIn(((0, 1), -1), told)
        told = group(one_box((UP,) * 3, (((1, 2, 0), -1),)), "b")
        self.assertEqual(len(told), 6)
        self.assertIn(((0, 1, 2), -1), told)

    def test_each_two_come_to_one_of_them(self):
        for gear in GEARS:
            for name, _, _ in gear[1]:
                told = group(gear, name)
                for order, sign in told:
                    for turn, factor in told:
                        self.assertIn((moved(order, turn), sign * factor), told)


class Moved(unittest.TestCase):
    def test_at_k_what_stood_at_order_k(self):
        self.assertEqual(moved(("a", "b", "c"), (1, 2, 0)), ("b", "c", "a"))
        self.assertEqual(moved(("a", "b", "c", "d"), (3, 0, 2, 1)), ("d", "a", "c", "b"))
        self.assertEqual(moved((), ()), ())
        for many in range(5):
            row = tuple("abcd"[:many])
            for order in itertools.permutations(range(many)):
                told = moved(row, order)
                self.assertIs(type(told), tuple)
                self.assertEqual([told[k] for k in range(many)], [row[order[k]] for k in range(many)])

    def test_a_row_of_any_things(self):
        things = [None, [1], {"a": 1}, 0.5, object(), Ellipsis, NOTHINGS[-4]]
        order = (6, 0, 5, 1, 4, 2, 3)
        for row in (things, tuple(things)):
            told = moved(row, order)
            self.assertIs(type(told), tuple)
            for k, at in enumerate(order):
                self.assertIs(told[k], things[at])
        self.assertEqual(things[:3], [None, [1], {"a": 1}])

    def test_by_names(self):
        self.assertEqual(need_same_by_name(self, moved, ("row", "order"), (["a", "b"], (1, 0))), ("b", "a"))

    def test_one_move_after_another(self):
        row = ("a", "b", "c")
        for one in itertools.permutations(range(3)):
            for other in itertools.permutations(range(3)):
                self.assertEqual(moved(moved(row, one), other), moved(row, moved(one, other)))


if __name__ == "__main__":
    unittest.main()
