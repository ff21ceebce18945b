"""Promises 16 and 17 as slotsure.shelf tells them: DEFINITIONS, kept PAIRS, deeds and verdicts of a Shelf."""

import copy
import itertools
import random
import time
import unittest
from fractions import Fraction

from helper import (
    BARE_GEAR, DOWN, GEAR, NOTHINGS, SUM_GEAR, UP, a_definition, a_sum, brute_worth, few_arrays, need_paper,
    need_refused,
    need_same_by_name, need_witness, numbers_in, put,
)
from slotsure.alike import alike, check_alike, check_unlike
from slotsure.arrays import need_arrays, worth
from slotsure.definitions import put_in
from slotsure.errors import (
    BadArrays, BadDeed, BadDefinition, BadGear, BadName, BadSizes, BadSum, Full, NoBox, NoName, NotDefined, NotSo, Ring,
    TooGreat, Unfit,
)
from slotsure.forms import weight
from slotsure.joins import even, odd
from slotsure.shelf import Shelf
from slotsure.sums import need_sum, plain, scaled

ONE = (1, 1)
AB = (("a", "v", "up"), ("b", "v", "down"))
SUM = (AB, (((2, 3), (("m", ("a", "b")),)), ((-1, 2), (("m", ("a", "c")), ("m", ("c", "b"))))))
NO_GEARS = (*NOTHINGS, (), (("b", "a"), ()), [GEAR[0], GEAR[1]])
NO_BOXES = (*NOTHINGS, "x", "mm", "v", "up", 0, ("m",), ("m", ()))
NO_SUMS = (*NOTHINGS, (), (AB,), (AB, []), (AB, ((ONE, ()),)), (AB, (((2, 2), SUM[1][0][1]),)), (AB, SUM[1] * 201))

# Eight BOXES without SLOTS: here a SUM is a polynomial.
BARE = (("v",), tuple((name, (), ()) for name in "abcdefgh"))
# Of two SLOTS: without MOVES, even, odd; and one of one SLOT to make them of.
PAIRS_GEAR = (("v",), (
    ("c", (UP,), ()), ("d", (UP,), ()), ("e", (UP, UP), (((1, 0), 1),)), ("f", (UP, UP), (((1, 0), -1),)),
    ("m", (UP, UP), ()), ("r", (UP, UP, UP), (((1, 0, 2), 1), ((1, 2, 0), 1))), ("s", (), ()),
))
XY = (("x", "v", "up"), ("y", "v", "up"))


def product(*boxes):
    """The SUM of the product of these BOXES without SLOTS."""
    return (), ((ONE, tuple((box, ()) for box in boxes)),)


def total(*parts):
    """The SUM of these products, each a text of BOXES' NAMES, all times 1."""
    return (), tuple((ONE, tuple((box, ()) for box in part)) for part in parts)


def defined_shelf(gear, *definitions):
    shelf = Shelf(gear)
    for box, names, given in definitions:
        shelf.define(box, names, given)
    return shelf


def some_shelf(rnd):
    """A Shelf with three DEFINITIONS, where so many come after some tries."""
    shelf = Shelf(SUM_GEAR)
    boxes = rnd.sample("eghmot", 3)
    for box in boxes * 6:
        if box in shelf.defined():
            continue
        names, given = a_definition(rnd, SUM_GEAR, box, 2, 2)
        if box == "e":
            given = even(SUM_GEAR, given, names)
        try:
            shelf.define(box, names, given)
        except (Ring, TooGreat):
            continue
    return shelf


def state(shelf):
    """All that is told of a Shelf."""
    return (
        shelf.gear(), len(shelf), [(box, shelf.definition(box)) for box in shelf.defined()],
        [(name, shelf.pair(name)) for name in shelf.names()],
    )


class ShelfCase(unittest.TestCase):
    def need_refused_and_same(self, shelf, kind, call, *things, field=None):
        """Needs call(*things) to be refused and the Shelf to stay as it is."""
        before, twin = state(shelf), shelf.twin()
        held = need_refused(self, kind, call, *things, field=field)
        self.assertEqual(state(shelf), before)
        self.assertEqual(shelf, twin)
        return held

    def need_deed_refused(self, shelf, kind, deed, field=None):
        """Needs the deed to be refused, also where turned is asked of it."""
        call = shelf.define if deed[0] == "define" else shelf.undefine
        first = self.need_refused_and_same(shelf, kind, call, *deed[1:], field=field)
        second = self.need_refused_and_same(shelf, kind, shelf.turned, deed, field=field)
        self.assertEqual(vars(first), vars(second))
        return first

    def need_same(self, call, names, things):
        return need_same_by_name(self, call, names, things)


class New(ShelfCase):
    def test_an_empty_shelf(self):
        for gear in (GEAR, BARE_GEAR, (("a",), ()), PAIRS_GEAR):
            shelf = need_same_by_name(self, Shelf, ("gear",), (gear,))
            self.assertEqual(state(shelf), (gear, 0, [], []))
            self.assertEqual(shelf.full(((), ())), ((), ()))

    def test_bad_gear(self):
        for thing in NO_GEARS:
            need_refused(self, BadGear, Shelf, thing)


class Define(ShelfCase):
    def test_by_place_and_by_names(self):
        definition = ("define", "m", ("x", "y"), (XY, ((ONE, (("c", ("x",)), ("d", ("y",)))),)))
        _, box, names, given = definition
        one, two, three = Shelf(PAIRS_GEAR), Shelf(PAIRS_GEAR), Shelf(PAIRS_GEAR)
        self.assertIsNone(one.define(box, names, given))
        self.assertIsNone(two.define(given=given, names=names, box=box))
        self.assertIsNone(three.define(box, given=given, names=names))
        self.assertEqual(one, two)
        self.assertEqual(one, three)
        self.assertEqual(one.definition("m"), (names, given))
        self.assertEqual(one.definition(box="m"), (names, given))
        self.assertEqual(one.defined(), ["m"])
        self.assertEqual(len(one), 1)
        self.assertIsNone(one.undefine(box="m"))
        self.assertIsNone(two.undefine("m"))
        self.assertEqual(one, Shelf(PAIRS_GEAR))
        self.assertEqual(one, two)

    def test_anew(self):
        shelf = Shelf(BARE)
        for given in (product("b"), product("c", "c"), ((), ()), product("b")):
            self.assertIsNone(shelf.define("a", (), given))
            self.assertEqual(shelf.definition("a"), ((), given))
            self.assertEqual(len(shelf), 1)

    def test_lists_are_rising_and_new(self):
        shelf = Shelf(BARE)
        for box in "dbca":
            shelf.define(box, (), product("h"))
        told = shelf.defined()
        self.assertIs(type(told), list)
        self.assertEqual(told, list("abcd"))
        told.clear()
        self.assertEqual(shelf.defined(), list("abcd"))
        for name in ("z", "aa", "b"):
            shelf.keep(name, product("a"), product("h"))
        told = shelf.names()
        self.assertEqual(told, ["aa", "b", "z"])
        told.append("c")
        self.assertEqual(shelf.names(), ["aa", "b", "z"])
        told = shelf.turned(("undefine", "a"))
        self.assertEqual(told, ["aa", "b", "z"])
        told.clear()
        self.assertEqual(shelf.turned(("undefine", "a")), ["aa", "b", "z"])

    def test_no_box(self):
        shelf = defined_shelf(GEAR, ("s", (), ((), ((ONE, ()),))))
        for thing in NO_BOXES:
            for call, behind in (
                (shelf.define, (("a", "b"), SUM)), (shelf.define, (None, None)), (shelf.undefine, ()),
                (shelf.definition, ()),
            ):
                held = self.need_refused_and_same(shelf, NoBox, call, thing, *behind)
                self.assertIs(held.name, thing)
            for deed in (("define", thing, ("a", "b"), SUM), ("define", thing, None, None), ("undefine", thing)):
                held = self.need_refused_and_same(shelf, NoBox, shelf.turned, deed)
                self.assertIs(held.name, thing)

    def test_bad_name_then_bad_sum_then_bad_definition(self):
        shelf = Shelf(GEAR)
        for names in (
            *NOTHINGS, (), ("a",), ("a", "b", "c"), ("a", "a"), ["a", "b"], ("A", "b"), ("a", ""), ("a", 1),
            ("a", None), "ab",
            (("a",), "b"), ("a", ["b"]), ("a", "abcdefghi"), {"a": 1, "b": 2},
        ):
            for given in (SUM, None):
                self.need_deed_refused(shelf, BadName, ("define", "m", names, given))
        self.need_deed_refused(shelf, BadName, ("define", "s", ("a",), ((), ())))
        for given in NO_SUMS:
            self.need_deed_refused(shelf, BadSum, ("define", "m", ("a", "b"), given))
            self.need_deed_refused(shelf, BadSum, ("define", "m", ("x", "y"), given))
        for names, given in (
            (("a", "c"), SUM), (("b", "a"), SUM), (("x", "y"), SUM), (("a", "b"), ((), ())), (("a", "b"), (AB[:1], ())),
            (("a", "b"), (AB + (("c", "v", "up"),), ())), (("a", "b"), ((("a", "v", "up"), ("b", "w", "down")), ())),
            (("a", "b"), ((("a", "v", "down"), ("b", "v", "up")), ())),
            (("a", "b"), ((("a", "v", "up"), ("b", "v", "up")), ())),
        ):
            self.need_deed_refused(shelf, BadDefinition, ("define", "m", names, given))
        self.need_deed_refused(shelf, BadDefinition, ("define", "s", (), SUM))

    def test_not_defined(self):
        shelf = defined_shelf(BARE, ("a", (), product("b")))
        for box in "bcdefgh":
            self.need_deed_refused(shelf, NotDefined, ("undefine", box), field=("name", box))
            self.need_refused_and_same(shelf, NotDefined, shelf.definition, box, field=("name", box))


class Rings(ShelfCase):
    def test_by_itself(self):
        for given in (
            product("a"), product("b", "a"), ((), (((0, 1), (("a", ()),)),)),
            ((), ((ONE, ()), ((0, 1), (("b", ()), ("a", ()))))),
        ):
            self.need_deed_refused(Shelf(BARE), Ring, ("define", "a", (), given), field=("boxes", ("a",)))
            shelf = defined_shelf(BARE, ("a", (), product("c")), ("b", (), product("c")))
            self.need_deed_refused(shelf, Ring, ("define", "a", (), given), field=("boxes", ("a",)))

    def test_through_others(self):
        shelf = defined_shelf(BARE, ("c", (), product("a", "h")), ("b", (), product("c")))
        self.need_deed_refused(shelf, Ring, ("define", "a", (), product("b")), field=("boxes", ("a", "b", "c")))
        self.need_deed_refused(shelf, Ring, ("define", "a", (), product("c")), field=("boxes", ("a", "c")))
        # Others that it comes to, or that come to it, but not both, are none of these.
        shelf.define("d", (), product("a", "b"))
        shelf.define("h", (), product("g"))
        self.need_deed_refused(
            shelf, Ring, ("define", "a", (), product("b", "g", "h")), field=("boxes", ("a", "b", "c")),
        )
        self.need_deed_refused(shelf, Ring, ("define", "a", (), product("d")), field=("boxes", ("a", "b", "c", "d")))
        self.need_deed_refused(shelf, Ring, ("define", "g", (), product("h")), field=("boxes", ("g", "h")))
        # Two rings at once, that meet in it alone.
        shelf = defined_shelf(BARE, ("b", (), product("a")), ("c", (), product("a")))
        self.need_deed_refused(shelf, Ring, ("define", "a", (), total("b", "c")), field=("boxes", ("a", "b", "c")))
        self.need_deed_refused(shelf, Ring, ("define", "a", (), product("c")), field=("boxes", ("a", "c")))

    def test_through_parts_with_nought(self):
        nought = ((), (((0, 1), (("a", ()),)),))
        shelf = defined_shelf(BARE, ("b", (), nought))
        self.need_deed_refused(
            shelf, Ring, ("define", "a", (), ((), (((0, 1), (("b", ()),)), (ONE, ())))), field=("boxes", ("a", "b")),
        )

    def test_a_definition_anew_breaks_a_ring(self):
        shelf = defined_shelf(BARE, ("b", (), product("a")))
        self.need_deed_refused(shelf, Ring, ("define", "a", (), product("b")), field=("boxes", ("a", "b")))
        shelf.define("b", (), product("c"))
        shelf.define("a", (), product("b"))
        self.need_deed_refused(shelf, Ring, ("define", "c", (), product("a")), field=("boxes", ("a", "b", "c")))
        shelf.undefine("b")
        shelf.define("c", (), product("a"))
        self.need_deed_refused(shelf, Ring, ("define", "b", (), product("c")), field=("boxes", ("a", "b", "c")))

    def test_ahead_of_what_is_too_great(self):
        shelf = defined_shelf(BARE, ("b", (), product("a")))
        long = ((), ((ONE, (("b", ()),) * 6),) * 400)
        self.need_deed_refused(shelf, Ring, ("define", "a", (), long), field=("boxes", ("a", "b")))
        # And ahead of MOVES that it hasn't.
        shelf = Shelf(PAIRS_GEAR)
        given = (XY, ((ONE, (("c", ("x",)), ("d", ("y",)))), (ONE, (("e", ("x", "y")),))))
        self.need_deed_refused(shelf, Ring, ("define", "e", ("x", "y"), given), field=("boxes", ("e",)))


class Moves(ShelfCase):
    CD = (XY, ((ONE, (("c", ("x",)), ("d", ("y",)))),))
    CC = (XY, ((ONE, (("c", ("x",)), ("c", ("y",)))),))

    def test_of_the_box_itself(self):
        shelf = Shelf(PAIRS_GEAR)
        for box, good, bad in (
            ("e", even(PAIRS_GEAR, self.CD, ("x", "y")), (self.CD, odd(PAIRS_GEAR, self.CD, ("x", "y")))),
            ("f", odd(PAIRS_GEAR, self.CD, ("x", "y")), (self.CD, self.CC, even(PAIRS_GEAR, self.CD, ("x", "y")))),
        ):
            for given in bad:
                held = self.need_deed_refused(shelf, NotSo, ("define", box, ("x", "y"), given), field=("box", box))
                self.assertEqual(held.number, 0)
            self.assertIsNone(shelf.define(box, ("x", "y"), good))
            self.assertIsNone(shelf.define(box, ("x", "y"), (XY, ())))
        shelf.define("m", ("x", "y"), self.CD)

    def test_the_first_move_that_it_has_not(self):
        free = tuple((name, "v", "up") for name in "xyz")
        bare = (free, ((ONE, (("c", ("x",)), ("d", ("y",)), ("d", ("z",)))),))
        for given, number in (
            (bare, 0), (even(PAIRS_GEAR, bare, ("x", "y")), None), (even(PAIRS_GEAR, bare, tuple("xyz")), None),
        ):
            wanted = number
            if given[1] == even(PAIRS_GEAR, bare, ("x", "y"))[1]:
                # Even in the first two alone: it is the second MOVE that it hasn't.
                wanted = 1
            shelf = Shelf(PAIRS_GEAR)
            if wanted is None:
                shelf.define("r", ("x", "y", "z"), given)
            else:
                held = self.need_deed_refused(shelf, NotSo, ("define", "r", ("x", "y", "z"), given), field=("box", "r"))
                self.assertEqual((held.number, type(held.number)), (wanted, int))
        # By the SLOTS, not by the NAMES' letters.
        shelf = Shelf(PAIRS_GEAR)
        held = self.need_deed_refused(
            shelf, NotSo, ("define", "r", ("z", "x", "y"), even(PAIRS_GEAR, bare, ("y", "z"))),
        )
        self.assertEqual(held.number, 0)
        held = self.need_deed_refused(
            shelf, NotSo, ("define", "r", ("z", "x", "y"), even(PAIRS_GEAR, bare, ("x", "z"))),
        )
        self.assertEqual(held.number, 1)

    def test_of_another_box(self):
        # e is m made even by m's DEFINITION alone.
        even_m = (XY, ((ONE, (("m", ("x", "y")),)),))
        shelf = defined_shelf(PAIRS_GEAR, ("m", ("x", "y"), self.CC), ("e", ("x", "y"), even_m))
        for deed in (
            ("define", "m", ("x", "y"), self.CD), ("undefine", "m"),
            ("define", "m", ("x", "y"), (XY, ((ONE, (("f", ("x", "y")),)),))),
        ):
            held = self.need_deed_refused(shelf, NotSo, deed, field=("box", "e"))
            self.assertEqual(held.number, 0)
        self.assertEqual(shelf.definition("m"), (("x", "y"), self.CC))
        for given in (
            even(PAIRS_GEAR, self.CD, ("x", "y")), (XY, ()),
            (XY, ((ONE, (("f", ("y", "x")), ("s", ()))), (ONE, (("f", ("x", "y")), ("s", ()))))), self.CC,
        ):
            self.assertEqual(shelf.turned(("define", "m", ("x", "y"), given)), [])
            shelf.define("m", ("x", "y"), given)
        # Both are touched: BOX by BOX as NAMES rise.
        shelf.define("f", ("x", "y"), (XY, ()))
        shelf.undefine("e")
        shelf.undefine("m")
        shelf.define("f", ("x", "y"), (XY, ((ONE, (("m", ("x", "y")),)), ((-1, 1), (("m", ("y", "x")),)))))
        self.need_deed_refused(
            shelf, NotSo, ("define", "e", ("x", "y"), (XY, ((ONE, (("f", ("x", "y")),)),))), field=("box", "e"),
        )

    def test_box_by_box(self):
        gear = (("v",), (
            ("a", (UP, UP), (((1, 0), 1),)), ("k", (UP, UP), ()), ("u", (UP,), ()), ("w", (UP,), ()),
            ("z", (UP, UP), (((1, 0), -1),)),
        ))
        k = (XY, ((ONE, (("k", ("x", "y")),)),))
        nothing, uw = (XY, ()), (XY, ((ONE, (("u", ("x",)), ("w", ("y",)))),))
        shelf = defined_shelf(gear, ("k", ("x", "y"), nothing), ("a", ("x", "y"), k), ("z", ("x", "y"), k))
        self.need_deed_refused(shelf, NotSo, ("define", "k", ("x", "y"), uw), field=("box", "a"))
        self.need_deed_refused(
            shelf, NotSo, ("define", "k", ("x", "y"), even(gear, uw, ("x", "y"))), field=("box", "z"),
        )
        self.need_deed_refused(shelf, NotSo, ("define", "k", ("x", "y"), odd(gear, uw, ("x", "y"))), field=("box", "a"))
        self.need_deed_refused(shelf, NotSo, ("undefine", "k"), field=("box", "a"))
        # TooGreat of a BOX ahead, then NotSo of it, then of the next.
        heavy = (XY, ((ONE, (("u", ("x",)), ("u", ("y",)))),) * 201)
        self.assertEqual(len(heavy[1]), 201)
        twice = (XY, ((ONE, (("k", ("x", "y")),)),) * 2)
        shelf = defined_shelf(gear, ("k", ("x", "y"), nothing), ("a", ("x", "y"), k), ("z", ("x", "y"), twice))
        self.need_deed_refused(shelf, TooGreat, ("define", "k", ("x", "y"), heavy), field=("most", 400))
        self.need_deed_refused(shelf, NotSo, ("define", "k", ("x", "y"), (XY, uw[1] * 201)), field=("box", "a"))

    def test_too_great(self):
        shelf = defined_shelf(BARE, ("b", (), product("a", "a")), ("c", (), total("a", "a")))
        for given, most in (
            (total(*["h"] * 20), 400), (total(*["h"] * 201), 400), (((), ((ONE, (("h", ()),) * 4),)), 6),
            # LONG is looked at first.
            (((), ((ONE, (("h", ()),) * 6),) * 21), 400),
        ):
            if given == total(*["h"] * 20):
                self.assertEqual(shelf.turned(("define", "a", (), given)), [])
            else:
                self.need_deed_refused(shelf, TooGreat, ("define", "a", (), given), field=("most", most))
        # Also where another BOX is undefined: what comes between isn't too great any more, or is.
        shelf = defined_shelf(
            BARE, ("a", (), ((), ())), ("h", (), ((), ((ONE, (("g", ()), ("g", ()), ("a", ()))),))),
            ("g", (), total(*["f"] * 21)),
        )
        self.assertEqual(shelf.full(product("h")), ((), ()))
        self.need_deed_refused(shelf, TooGreat, ("undefine", "a"), field=("most", 400))
        shelf.define("g", (), total(*["f"] * 20))
        shelf.undefine("a")
        self.assertEqual(len(shelf.full(product("h"))[1]), 400)

    def test_too_heavy_to_look_at_moves(self):
        gear = (("v",), (("a", (), ()), ("b", (), (((), 1),)), ("c", (), (((), -1),)), ("k", (), ())))
        six = ((), ((ONE, (("c", ()),) * 6),))
        shelf = Shelf(gear)
        # Where a BOX has no MOVES, none is looked at.
        shelf.define("a", (), six)
        self.need_deed_refused(shelf, TooGreat, ("define", "b", (), six), field=("most", 5000))
        self.need_deed_refused(shelf, TooGreat, ("define", "b", (), ((), ((ONE, (("a", ()),)),))), field=("most", 5000))
        shelf.define("k", (), ((), ((ONE, ()),)))
        shelf.define("b", (), product("k"))
        self.need_deed_refused(shelf, TooGreat, ("define", "k", (), six), field=("most", 5000))
        self.need_deed_refused(
            shelf, TooGreat, ("define", "k", (), ((), (((0, 1), (("a", ()),)),))), field=("most", 5000),
        )


class FullSums(ShelfCase):
    def need_full(self, shelf, given):
        """Needs it to be what comes by putting in, again and again, by put_in."""
        told = self.need_same(shelf.full, ("given",), (given,))
        gear = shelf.gear()
        need_sum(gear, told)
        wanted = given
        while True:
            standing = {box for _, term in wanted[1] for box, _ in term}
            boxes = [box for box in shelf.defined() if box in standing]
            if not boxes:
                break
            wanted = put_in(gear, boxes[0], shelf.definition(boxes[0]), wanted)
        self.assertEqual(told[0], wanted[0])
        found = [[(share, sorted(box for box, _ in term)) for share, term in row[1]] for row in (told, wanted)]
        self.assertEqual(sorted(found[0]), sorted(found[1]))
        if all(weight(gear, term) <= 5000 for _, term in wanted[1]):
            self.assertEqual(plain(gear, told), plain(gear, wanted))
        return told

    def test_by_hand(self):
        shelf = defined_shelf(
            BARE, ("a", (), total("b", "c")), ("b", (), total("d", "d")),
            ("c", (), ((), (((1, 2), (("e", ()), ("d", ()))), ((0, 1), ())))),
        )
        told = self.need_full(shelf, product("a", "h"))
        rows = sorted((share, sorted(box for box, _ in term)) for share, term in told[1])
        self.assertEqual(rows, sorted([
            (ONE, ["d", "h"]), (ONE, ["d", "h"]), ((1, 2), ["d", "e", "h"]), ((0, 1), ["h"]),
        ]))
        self.assertEqual(len(self.need_full(shelf, product("a", "a"))[1]), 16)
        self.assertEqual(shelf.full(product("h")), product("h"))
        self.assertEqual(shelf.full(((), ())), ((), ()))
        self.assertEqual(Shelf(GEAR).full(SUM), SUM)

    def test_many(self):
        rnd = random.Random(80)
        seen = 0
        for _ in range(60):
            shelf = some_shelf(rnd)
            given = a_sum(rnd, SUM_GEAR, AB, 3, 3)
            try:
                shelf.full(given)
            except TooGreat:
                continue
            seen += self.need_full(shelf, given) != given
        self.assertGreater(seen, 25)

    def test_the_order_shows_where_it_is_too_great(self):
        # a comes first: so 400 PARTS of a go, as b has none, only when they all are there.
        shelf = defined_shelf(BARE, ("a", (), total(*["h"] * 20)), ("b", (), ((), ())))
        need_refused(self, TooGreat, shelf.full, product("a", "a", "b", "a"), field=("most", 400))
        need_refused(self, TooGreat, shelf.full, total("aab", "h"), field=("most", 400))
        self.assertEqual(shelf.full(product("a", "a", "b")), ((), ()))
        shelf = defined_shelf(BARE, ("b", (), total(*["h"] * 20)), ("a", (), ((), ())))
        self.assertEqual(shelf.full(product("a", "b", "b", "b")), ((), ()))
        # LONG, then MOST, of what comes each time.
        six = ((), ((ONE, (("h", ()),) * 6),))
        shelf = defined_shelf(BARE, ("a", (), six), ("b", (), total(*["h"] * 400)))
        need_refused(self, TooGreat, shelf.full, product("a", "b"), field=("most", 6))
        need_refused(self, TooGreat, shelf.full, ((), ((ONE, (("a", ()),)), (ONE, (("b", ()),)))), field=("most", 400))
        shelf = defined_shelf(BARE, ("b", (), six), ("a", (), total(*["h"] * 400)))
        need_refused(
            self, TooGreat, shelf.full, ((), ((ONE, (("a", ()), ("b", ()))), (ONE, (("a", ()),)))), field=("most", 400),
        )
        shelf = defined_shelf(BARE, ("a", (), ((), ((ONE, (("h", ()),) * 6),) * 21)))
        need_refused(self, TooGreat, shelf.full, product("a", "a"), field=("most", 400))
        # Put in again, where a later one brings the first back.
        shelf = defined_shelf(BARE, ("a", (), total(*["h"] * 20)), ("b", (), product("a", "a")))
        self.assertEqual(len(shelf.full(product("b"))[1]), 400)
        need_refused(self, TooGreat, shelf.full, product("b", "a"), field=("most", 400))
        need_refused(self, TooGreat, shelf.full, total("b", "h"), field=("most", 400))

    def test_nothing_is_made_plain_between(self):
        # a less a would be nothing at all.
        given = ((), ((ONE, (("a", ()), ("a", ()))), ((-1, 1), (("a", ()), ("a", ())))))
        shelf = defined_shelf(BARE, ("a", (), total(*["h"] * 14)))
        self.assertEqual(len(self.need_full(shelf, given)[1]), 392)
        shelf.define("a", (), total(*["h"] * 15))
        need_refused(self, TooGreat, shelf.full, given, field=("most", 400))
        nought = ((), (((0, 1), (("a", ()), ("a", ()))),) * 2)
        need_refused(self, TooGreat, shelf.full, nought, field=("most", 400))

    def test_bad_sum(self):
        shelf = defined_shelf(GEAR, ("s", (), ((), ())))
        for thing in NO_SUMS:
            need_refused(self, BadSum, shelf.full, thing)

    def test_a_chain_of_all_within_seconds(self):
        shelf = Shelf(BARE)
        start = time.perf_counter()
        # Each comes to all behind it, so that the last of them is put in again and again.
        for at in range(1, 8):
            shelf.define("hgfedcba"[8 - at], (), total(*"hgfedcba"[8 - at + 1:], "h") if at > 1 else product("h"))
        self.assertEqual(len(shelf), 7)
        told = shelf.full(product("g"))
        self.assertLess(time.perf_counter() - start, 10)
        self.assertEqual({box for _, term in told[1] for box, _ in term}, {"h"})


class Pairs(ShelfCase):
    def test_keep_pair_and_drop(self):
        shelf = Shelf(GEAR)
        self.assertIsNone(shelf.keep("a", SUM, (AB, ())))
        self.assertIsNone(shelf.keep(other=SUM, one=(AB, ()), name="b"))
        self.assertEqual(shelf.names(), ["a", "b"])
        self.assertEqual(shelf.pair("a"), (SUM, (AB, ())))
        self.assertEqual(shelf.pair(name="b"), ((AB, ()), SUM))
        self.assertIsNone(shelf.keep("a", ((), ()), ((), ())))
        self.assertEqual(shelf.pair("a"), (((), ()), ((), ())))
        self.assertIsNone(shelf.drop("a"))
        self.assertIsNone(shelf.drop(name="b"))
        self.assertEqual(shelf, Shelf(GEAR))
        self.assertEqual(len(shelf), 0)

    def test_keep_refuses(self):
        shelf = Shelf(GEAR)
        for at in range(8):
            shelf.keep("abcdefgh"[at], SUM, SUM)
        for thing in (*NOTHINGS, "A", "", "abcdefghi", "a b", 1, ("a",), ["a"]):
            self.need_refused_and_same(shelf, BadName, shelf.keep, thing, SUM, SUM)
            self.need_refused_and_same(shelf, BadName, shelf.keep, thing, None, None)
        for thing in NO_SUMS:
            self.need_refused_and_same(shelf, BadSum, shelf.keep, "z", thing, SUM)
            self.need_refused_and_same(shelf, BadSum, shelf.keep, "z", SUM, thing)
            self.need_refused_and_same(shelf, BadSum, shelf.keep, "a", ((), ()), thing)
        self.need_refused_and_same(shelf, Unfit, shelf.keep, "z", SUM, ((), ()), field=("others", ("a", "b")))
        self.need_refused_and_same(shelf, Unfit, shelf.keep, "a", SUM, (AB[:1], ()), field=("others", ("b",)))
        self.need_refused_and_same(shelf, Full, shelf.keep, "z", SUM, SUM, field=("most", 8))
        self.assertIsNone(shelf.keep("d", SUM, (AB, ())))
        self.assertEqual(shelf.pair("d"), (SUM, (AB, ())))
        shelf.drop("a")
        self.assertIsNone(shelf.keep("z", SUM, SUM))
        self.need_refused_and_same(shelf, Full, shelf.keep, "a", SUM, SUM, field=("most", 8))

    def test_no_name(self):
        shelf = Shelf(GEAR)
        shelf.keep("a", SUM, SUM)
        for thing in (*NOTHINGS, "b", "aa", "A", "", 1, ("a",), ["a"], {"a": 1}):
            for call in (shelf.drop, shelf.pair, shelf.verdict):
                held = self.need_refused_and_same(shelf, NoName, call, thing)
                self.assertIs(held.name, thing)
        shelf.drop("a")
        for call in (shelf.drop, shelf.pair, shelf.verdict):
            self.need_refused_and_same(shelf, NoName, call, "a", field=("name", "a"))

    def test_pairs_are_not_looked_at_in_deeds(self):
        shelf = Shelf(BARE)
        shelf.keep("p", product(*"aaaaaa"), ((), ()))
        shelf.define("a", (), product("h", "h"))
        need_refused(self, TooGreat, shelf.verdict, "p", field=("most", 6))
        shelf.keep("q", product(*"aaaaaa"), ((), ()))
        self.assertEqual(shelf.names(), ["p", "q"])
        shelf.undefine("a")
        self.assertEqual(shelf.verdict("p")[0], "unlike")


class Verdicts(ShelfCase):
    def need_verdict(self, shelf, name, word):
        told = self.need_same(shelf.verdict, ("name",), (name,))
        one, other = (shelf.full(given) for given in shelf.pair(name))
        self.assertEqual(told[0], word)
        if word == "alike":
            need_paper(self, shelf.gear(), one, other, told[1])
            self.assertIs(check_alike(shelf.gear(), one, other, told[1]), True)
        else:
            need_witness(self, shelf.gear(), one, other, told[1])
            self.assertIs(check_unlike(shelf.gear(), one, other, told[1]), True)
        self.assertEqual(told, alike(shelf.gear(), one, other))

    def test_now_and_after_deeds(self):
        shelf = Shelf(BARE)
        shelf.keep("p", product("a", "a"), total("bb", "bc", "cb", "cc"))
        shelf.keep("q", product("a"), product("h"))
        shelf.keep("r", product("g"), product("g"))
        for name, word in (("p", "unlike"), ("q", "unlike"), ("r", "alike")):
            self.need_verdict(shelf, name, word)
        deed = ("define", "a", (), total("b", "c"))
        self.assertEqual(shelf.turned(deed), ["p"])
        shelf.define(*deed[1:])
        for name, word in (("p", "alike"), ("q", "unlike"), ("r", "alike")):
            self.need_verdict(shelf, name, word)
        self.assertEqual(shelf.turned(("undefine", "a")), ["p"])
        self.assertEqual(shelf.turned(("define", "a", (), product("h"))), ["p", "q"])
        self.assertEqual(shelf.turned(deed), [])
        # Put anew by one whose FULL SUM is ALIKE: none is turned.
        self.assertEqual(shelf.turned((
            "define", "a", (), ((), (((1, 2), (("c", ()),)), (ONE, (("b", ()),)), ((1, 2), (("c", ()),)))),
        )), [])
        shelf.define("a", (), product("h"))
        self.need_verdict(shelf, "p", "unlike")
        self.need_verdict(shelf, "q", "alike")
        shelf.undefine("a")
        self.need_verdict(shelf, "p", "unlike")
        self.need_verdict(shelf, "q", "unlike")

    def test_what_goes_round_by_a_sum(self):
        # The odd sum of three BOXES of one SLOT, put as a BOX.
        gear = (("v",), (
            ("a", (UP,), ()), ("b", (UP,), ()), ("x", (UP, UP), (((1, 0), -1),)), ("y", (DOWN, DOWN), (((1, 0), 1),)),
        ))
        shelf = Shelf(gear)
        shelf.keep("p", ((), ((ONE, (("x", ("k", "l")), ("y", ("k", "l")))),)), ((), ()))
        shelf.keep(
            "q", (XY, ((ONE, (("x", ("x", "y")),)),)),
            (XY, (((1, 2), (("a", ("x",)), ("b", ("y",)))), ((-1, 2), (("b", ("x",)), ("a", ("y",)))))),
        )
        self.need_verdict(shelf, "p", "alike")
        self.need_verdict(shelf, "q", "unlike")
        given = odd(gear, (XY, ((ONE, (("a", ("x",)), ("b", ("y",)))),)), ("x", "y"))
        for names, by, word in (
            (("x", "y"), ONE, "alike"), (("y", "x"), ONE, "unlike"), (("y", "x"), (-1, 1), "alike"),
        ):
            shelf.define("x", names, scaled(gear, given, by))
            self.need_verdict(shelf, "p", "alike")
            self.need_verdict(shelf, "q", word)

    def test_refusals(self):
        shelf = Shelf(BARE)
        shelf.define("a", (), total(*["h"] * 21))
        shelf.define("b", (), ((), ((ONE, (("h", ()),) * 6),)))
        shelf.keep("p", product("a", "a"), ((), ()))
        shelf.keep("q", ((), ()), product("a", "a"))
        shelf.keep("r", product("b", "h"), product("a", "a"))
        shelf.keep("s", total("b", "b", "b"), total("b", "b", "b"))
        for name, most in (("p", 400), ("q", 400), ("r", 6), ("s", 200000)):
            need_refused(self, TooGreat, shelf.verdict, name, field=("most", most))
        shelf = Shelf(BARE_GEAR)
        shelf.define("a", (), ((), ((ONE, (("c", ()),) * 3),)))
        shelf.keep("p", ((), ((ONE, (("a", ()),) * 2),)), ((), ()))
        need_refused(self, TooGreat, shelf.verdict, "p", field=("most", 5000))
        shelf.keep("p", ((), ()), ((), ((ONE, (("a", ()),) * 2),)))
        need_refused(self, TooGreat, shelf.verdict, "p", field=("most", 5000))


class Turned(ShelfCase):
    def test_bad_deed(self):
        shelf = defined_shelf(GEAR, ("s", (), ((), ())))
        shelf.keep("p", SUM, SUM)
        for deed in (
            *NOTHINGS, (), ("define",), ("undefine",), ("define", "m"), ("define", "m", ("a", "b")),
            ("define", "m", ("a", "b"), SUM, ()),
            ("undefine", "s", ()), ("undefine", "m", ("a", "b"), SUM), ("Define", "m", ("a", "b"), SUM), ("drop", "p"),
            ("undefin", "s"),
            ["undefine", "s"], ["define", "m", ("a", "b"), SUM], ("m", "define", ("a", "b"), SUM),
            ("keep", "p", SUM, SUM), "undefine",
            (("undefine",), "s"), (None, "s"), (["undefine"], "s"), ("s", "undefine"), ({}, "s"), (0, 1, 2, 3),
        ):
            self.need_refused_and_same(shelf, BadDeed, shelf.turned, deed)
        for thing in NOTHINGS:
            self.need_refused_and_same(shelf, BadDeed, shelf.turned, (thing, "s"))
            self.need_refused_and_same(shelf, BadDeed, shelf.turned, (thing, "m", ("a", "b"), SUM))

    def test_held_against_a_twin(self):
        rnd = random.Random(81)
        rows = [total(*rnd.sample(["b", "c", "bc", "h", "", "cc", "bb"], 2)) for _ in range(4)]
        seen = 0
        for _ in range(25):
            shelf = Shelf(BARE)
            for at in range(6):
                shelf.keep(
                    "pqrstu"[at], product(*rnd.choice(["a", "aa", "b", "ab"])),
                    rnd.choice(rows + [product("a"), product("b")]),
                )
            for box in rnd.sample("ab", rnd.randint(0, 2)):
                shelf.define(box, (), rnd.choice([product("h"), product("c"), total("c", "h")]))
            deeds = [("define", box, (), given) for box in "ab" for given in rows[:2] + [
                product("b"), product("h"), product("c"),
            ]]
            for deed in rnd.sample(deeds + [("undefine", box) for box in shelf.defined()], 4):
                twin = shelf.twin()
                before = {name: shelf.verdict(name)[0] for name in shelf.names()}
                try:
                    (twin.define if deed[0] == "define" else twin.undefine)(*deed[1:])
                except Ring as refusal:
                    self.need_refused_and_same(shelf, Ring, shelf.turned, deed, field=("boxes", refusal.boxes))
                    continue
                wanted = [name for name in shelf.names() if twin.verdict(name)[0] != before[name]]
                whole = state(shelf)
                self.assertEqual(self.need_same(shelf.turned, ("deed",), (deed,)), wanted)
                self.assertEqual(state(shelf), whole)
                seen += len(wanted)
        self.assertGreater(seen, 20)

    def test_refusals_of_verdicts(self):
        shelf = Shelf(BARE)
        shelf.keep("p", product("a", "a"), product("b"))
        shelf.keep("r", total(*["h" * 6] * 3), total(*["h" * 6] * 3))
        # As verdict now, then after it, NAME by NAME.
        self.need_refused_and_same(
            shelf, TooGreat, shelf.turned, ("define", "g", (), product("h")), field=("most", 200000),
        )
        self.need_refused_and_same(
            shelf, TooGreat, shelf.turned, ("define", "a", (), total(*["h"] * 21)), field=("most", 400),
        )
        self.need_refused_and_same(
            shelf, TooGreat, shelf.turned, ("define", "a", (), product(*"hhhh")), field=("most", 6),
        )
        shelf.drop("r")
        self.assertEqual(shelf.turned(("define", "g", (), product("h"))), [])
        shelf.define("b", (), product(*"hhhh"))
        shelf.keep("o", total("bb"), total("aa"))
        self.need_refused_and_same(
            shelf, TooGreat, shelf.turned, ("define", "a", (), total(*["h"] * 21)), field=("most", 6),
        )
        # The deed is refused ahead of the verdicts.
        self.need_refused_and_same(
            shelf, Ring, shelf.turned, ("define", "a", (), product("a")), field=("boxes", ("a",)),
        )
        self.need_refused_and_same(shelf, NotDefined, shelf.turned, ("undefine", "a"), field=("name", "a"))


class ArraysOf(ShelfCase):
    def need_arrays_of(self, shelf, sizes, arrays, sums):
        told = self.need_same(shelf.arrays_of, ("sizes", "arrays"), (sizes, arrays))
        gear = shelf.gear()
        self.assertIsNone(need_arrays(gear, sizes, told))
        size_of = dict(zip(gear[0], sizes))
        numbers = numbers_in(gear, told)
        for (box, kinds, _), before, after in zip(gear[1], arrays, told):
            if box not in shelf.defined():
                self.assertEqual(after, before)
                continue
            names, given = shelf.definition(box)
            own = [name for name, _, _ in given[0]]
            wanted = {}
            for row, number in brute_worth(gear, size_of, numbers, given).items():
                wanted[tuple(row[own.index(name)] for name in names)] = number
            self.assertEqual({row: Fraction(*share) for row, share in after}, wanted)
        for given in sums:
            self.assertEqual(worth(gear, sizes, told, given), worth(gear, sizes, arrays, shelf.full(given)))
        return told

    def test_by_hand(self):
        shelf = defined_shelf(
            BARE, ("a", (), total("b", "cc")), ("b", (), ((), (((1, 2), (("c", ()),)),))), ("d", (), ((), ())),
        )
        arrays = tuple((((), (3, 1)),) if box == "c" else () for box in "abcdefgh")
        told = self.need_arrays_of(
            shelf, (1,), arrays, [product("a"), product("a", "b", "c"), product("d"), total("a", "d", "")],
        )
        self.assertEqual(told[0], (((), (21, 2)),))
        self.assertEqual(told[1], (((), (3, 2)),))
        self.assertEqual(told[3], ())
        self.assertEqual(Shelf(BARE).arrays_of((1,), arrays), arrays)

    def test_numbers_in_the_order_of_the_slots(self):
        gear = (("v",), (("c", (UP,), ()), ("d", (UP,), ()), ("m", (UP, UP), ())))
        given = (XY, ((ONE, (("c", ("x",)), ("d", ("y",)))),))
        arrays = ((((0,), ONE), ((2,), (2, 1))), (((1,), (5, 1)), ((2,), (7, 1))), ())
        for names, wanted in (
            (("x", "y"), [(0, 1), (0, 2), (2, 1), (2, 2)]), (("y", "x"), [(1, 0), (1, 2), (2, 0), (2, 2)]),
        ):
            shelf = defined_shelf(gear, ("m", names, given))
            told = self.need_arrays_of(shelf, (3,), arrays, [(XY, ((ONE, (("m", ("y", "x")),)),))])
            self.assertEqual([row for row, _ in told[2]], wanted)

    def test_many(self):
        rnd = random.Random(82)
        seen = 0
        for _ in range(40):
            shelf = some_shelf(rnd)
            sizes = (rnd.randint(1, 3), rnd.randint(1, 2))
            arrays = few_arrays(rnd, SUM_GEAR, sizes, 4)
            arrays = tuple(() if box in shelf.defined() else rows for (box, _, _), rows in zip(SUM_GEAR[1], arrays))
            sums = []
            for _ in range(3):
                given = a_sum(rnd, SUM_GEAR, AB, 3, 2)
                try:
                    shelf.full(given)
                except TooGreat:
                    continue
                sums.append(given)
            self.need_arrays_of(shelf, sizes, arrays, sums)
            seen += len(shelf) * len(sums)
        self.assertGreater(seen, 20)

    def test_refusals(self):
        shelf = defined_shelf(GEAR, ("m", ("a", "b"), (AB, ())), ("s", (), ((), ((ONE, ()),))))
        none = ((),) * 8
        for sizes in (*NOTHINGS, (), (2,), (0, 2), (2, 25), (True, 2), [2, 2]):
            need_refused(self, BadSizes, shelf.arrays_of, sizes, none)
            need_refused(self, BadSizes, shelf.arrays_of, sizes, None)
        for arrays in (*NOTHINGS, none[1:], list(none), put(none, (0,), (((0, 1), ONE),)), put(none, (0,), None)):
            need_refused(self, BadArrays, shelf.arrays_of, (2, 2), arrays)
        for at, rows in ((2, (((0, 0), ONE),)), (6, (((), ONE),))):
            need_refused(self, BadArrays, shelf.arrays_of, (2, 2), put(none, (at,), rows))
        told = shelf.arrays_of((2, 2), put(none, (3,), ()))
        self.assertEqual(told, put(none, (6,), (((), ONE),)))

    def test_too_great(self):
        gear = (("v",), (
            ("a", (UP, UP), ()), ("b", (UP, UP), ()), ("c", (UP,), ()), ("h", (UP, UP, DOWN, DOWN), ()), ("s", (), ()),
        ))
        columns = lambda many: tuple(((at,), ONE) for at in range(many))
        cc = (XY, ((ONE, (("c", ("x",)), ("c", ("y",)))),))
        shelf = defined_shelf(gear, ("a", ("x", "y"), cc))
        # Just 400 ROWS, then 441.
        told = shelf.arrays_of((24,), ((), (), columns(20), (), ()))
        self.assertEqual(len(told[0]), 400)
        need_refused(self, TooGreat, shelf.arrays_of, (24,), ((), (), columns(21), (), ()), field=("most", 400))
        # Of the FULL SUM, that is 400 PARTS of 20 times 20 ROWS, then one of 25 more.
        many = (XY, cc[1] * 400)
        wide = defined_shelf(gear, ("b", ("x", "y"), many))
        start = time.perf_counter()
        self.assertEqual(len(wide.arrays_of((24,), ((), (), columns(20), (), ()))[1]), 400)
        self.assertLess(time.perf_counter() - start, 20)
        need_refused(self, TooGreat, wide.arrays_of, (24,), ((), (), columns(23), (), ()), field=("most", 200000))
        # BOX by BOX as NAMES rise.
        both = defined_shelf(gear, ("a", ("x", "y"), cc), ("b", ("x", "y"), many))
        need_refused(self, TooGreat, both.arrays_of, (24,), ((), (), columns(23), (), ()), field=("most", 400))
        both = defined_shelf(gear, ("a", ("x", "y"), many), ("b", ("x", "y"), cc))
        need_refused(self, TooGreat, both.arrays_of, (24,), ((), (), columns(23), (), ()), field=("most", 200000))
        # WIDE is asked of the FULL SUM, not of the DEFINITION.
        shelf = defined_shelf(
            gear, ("s", (), ((), ((ONE, ()),) * 20)),
            ("a", ("x", "y"), (XY, tuple((share, term + (("s", ()),)) for share, term in cc[1] * 20)))
        )
        self.assertEqual(len(shelf.full((XY, ((ONE, (("a", ("x", "y")),)),)))[1]), 400)
        need_refused(self, TooGreat, shelf.arrays_of, (24,), ((), (), columns(23), (), ()), field=("most", 200000))


class Twins(ShelfCase):
    def test_twins_go_by_themselves(self):
        shelf = defined_shelf(BARE, ("a", (), product("b")))
        shelf.keep("p", product("a"), product("b"))
        twin = shelf.twin()
        again = twin.twin()
        before = state(shelf)
        for one in (twin, again):
            self.assertIs(type(one), Shelf)
            self.assertEqual(state(one), before)
            self.assertEqual(one, shelf)
        twin.define("c", (), product("h"))
        twin.keep("q", product("a"), product("c"))
        twin.keep("p", product("c"), product("c"))
        twin.define("a", (), product("c"))
        self.assertEqual(state(shelf), before)
        self.assertEqual(state(again), before)
        self.assertNotEqual(twin, shelf)
        shelf.drop("p")
        shelf.undefine("a")
        self.assertEqual(state(again), before)
        self.assertEqual(twin.names(), ["p", "q"])
        self.assertEqual(twin.defined(), ["a", "c"])
        again.drop("p")
        self.assertEqual(twin.names(), ["p", "q"])

    def test_same_and_not_same(self):
        def made(*deeds):
            shelf = Shelf(BARE)
            for word, *things in deeds:
                {
                    "define": shelf.define, "undefine": shelf.undefine, "keep": shelf.keep, "drop": shelf.drop,
                }[word](*things)
            return shelf

        pair = (product("a"), product("b"))
        one = made(
            ("define", "a", (), product("b")), ("define", "c", (), product("h")), ("keep", "p", *pair),
            ("keep", "q", *pair),
        )
        for other in (
            made(
                ("keep", "q", *pair), ("define", "c", (), product("h")), ("keep", "p", *pair),
                ("define", "a", (), product("b")),
            ),
            made(
                ("define", "a", (), product("h")), ("define", "d", (), product("h")), ("keep", "p", pair[1], pair[0]),
                ("keep", "x", *pair),
                ("undefine", "d"), ("define", "c", (), product("h")), ("define", "a", (), product("b")), ("drop", "x"),
                ("keep", "q", *pair),
                ("keep", "p", *pair),
            ),
            one.twin(),
        ):
            self.assertIs(one == other, True)
            self.assertIs(other == one, True)
            self.assertIs(one != other, False)
        for other in (
            made(), made(("define", "a", (), product("b")), ("define", "c", (), product("h")), ("keep", "p", *pair)),
            made(("define", "a", (), product("b")), ("keep", "p", *pair), ("keep", "q", *pair)),
            made(
                ("define", "a", (), product("b")), ("define", "c", (), product("g")), ("keep", "p", *pair),
                ("keep", "q", *pair),
            ),
            made(
                ("define", "a", (), product("b")), ("define", "d", (), product("h")), ("keep", "p", *pair),
                ("keep", "q", *pair),
            ),
            made(
                ("define", "a", (), product("b")), ("define", "c", (), product("h")), ("keep", "p", *pair),
                ("keep", "r", *pair),
            ),
            made(
                ("define", "a", (), product("b")), ("define", "c", (), product("h")), ("keep", "p", *pair[::-1]),
                ("keep", "q", *pair),
            ),
            # ALIKE isn't the same.
            made(
                ("define", "a", (), product("b")), ("define", "c", (), ((), ((ONE, (("h", ()),)), ((0, 1), ())))),
                ("keep", "p", *pair), ("keep", "q", *pair),
            ),
        ):
            self.assertIs(one == other, False)
            self.assertIs(other == one, False)
            self.assertIs(one != other, True)
        self.assertIs(Shelf(BARE) == Shelf((("w",), BARE[1])), False)
        self.assertIs(Shelf(BARE) == Shelf((BARE[0], BARE[1][:7])), False)
        for thing in (*NOTHINGS, BARE, state(one), vars(one)):
            self.assertIs(one == thing, False)
            self.assertIs(Shelf(BARE) == thing, False)
            self.assertIs(one != thing, True)

    def test_len(self):
        shelf = Shelf(BARE)
        for at, box in enumerate("abcdefg", 1):
            shelf.define(box, (), product("h"))
            self.assertEqual(len(shelf), at)
            shelf.keep("p", product("a"), product("h"))
        shelf.undefine("c")
        self.assertEqual(len(shelf), 6)


class Whole(ShelfCase):
    def test_nothing_handed_in_is_changed_or_kept(self):
        shelf = Shelf(GEAR)
        names, given = ["a", "b"], [[], []]
        for call, things in (
            (shelf.define, ("m", names, SUM)), (shelf.define, ("m", ("a", "b"), given)),
            (shelf.keep, ("p", given, given)),
            (shelf.full, (given,)), (shelf.turned, (["undefine", "m"],)), (shelf.arrays_of, ([1, 1], [[]])),
            (shelf.drop, (names,)),
        ):
            before = copy.deepcopy(things)
            with self.assertRaises(Exception):
                call(*things)
            self.assertEqual(things, before)
        self.assertEqual(shelf, Shelf(GEAR))

    def test_some_definitions_and_pairs_within_seconds(self):
        rnd = random.Random(83)
        start = time.perf_counter()
        shelf = some_shelf(rnd)
        for name in "pqrstuvw":
            shelf.keep(name, a_sum(rnd, SUM_GEAR, AB, 2, 2), a_sum(rnd, SUM_GEAR, AB, 2, 2))
        for name in shelf.names():
            try:
                shelf.verdict(name)
            except TooGreat:
                continue
        for box in shelf.defined():
            try:
                shelf.turned(("undefine", box))
            except TooGreat:
                continue
        self.assertLess(time.perf_counter() - start, 20)

    def test_great_definitions_with_moves_within_seconds(self):
        # 400 PARTS of great WEIGHT, of a BOX with MOVES, below another one.
        gear = (("v",), (
            ("a", (UP,) * 4, (((1, 0, 2, 3), 1), ((1, 2, 3, 0), 1))),
            ("b", (UP,) * 4, (((1, 0, 2, 3), 1), ((1, 2, 3, 0), 1))),
            ("d", (DOWN,) * 4, (((1, 0, 2, 3), 1), ((1, 2, 3, 0), 1))),
            ("e", (UP,) * 4, (((1, 0, 2, 3), 1), ((1, 2, 3, 0), 1))),
            ("k", (UP,) * 4, ()), ("s", (), ()),
        ))
        names = tuple("pqrt")
        free = tuple((name, "v", "up") for name in names)
        start = time.perf_counter()
        rows = []
        for at, order in enumerate(list(itertools.permutations(names)) * 16):
            rows.append((
                Fraction(1, 1 + at // 24).as_integer_ratio(),
                (("a", tuple("wxyz")), ("d", tuple("wyxz")), ("k", order)) + (("s", ()),) * (at // 24 % 4),
            ))
        shelf = defined_shelf(gear, ("e", names, (free, tuple(rows))))
        shelf.define("b", names, (free, ((ONE, (("e", names),)),)))
        self.need_deed_refused(shelf, NotSo, ("define", "e", names, (free, tuple(rows[1:]))), field=("box", "b"))
        self.assertLess(time.perf_counter() - start, 30)


if __name__ == "__main__":
    unittest.main()
