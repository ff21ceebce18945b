"""Promise 3 as slotsure.terms tells it: TERMS, FREE and JOINED names."""

import copy
import random
import unittest

from helper import (
    BARE_GEAR, BIG_GEAR, GEAR, NOTHINGS, SMALL_GEAR, free_of, joined_of, need_refused, need_same_by_name, put,
    shortened,
    spoiled, terms,
)
from slotsure.errors import BadGear, BadTerm
from slotsure.terms import free, joined, need_term

# In GEAR: e up up, f down down (odd), m up down, n up and down of unlike SPACES,
# q up up down down, r three up of w, s without SLOTS, t down of v and of w.
TERMS = [
    (),
    (("s", ()),),
    (("s", ()),) * 6,
    (("e", ("a", "b")),),
    (("m", ("a", "b")),),
    (("m", ("a", "a")),),
    (("m", ("zzzzzzzz", "zzzzzzzz")),),
    (("e", ("abcdefgh", "z")), ("f", ("z", "abcdefgh"))),
    (("e", ("e", "v")), ("s", ()), ("f", ("w", "up"))),
    (("q", ("a", "b", "a", "b")),),
    (("q", ("a", "b", "b", "a")),),
    (("q", ("a", "b", "c", "a")), ("m", ("c", "b"))),
    (("n", ("a", "b")), ("t", ("a", "c")), ("r", ("c", "b", "d"))),
    (("m", ("a", "b")), ("m", ("b", "c")), ("m", ("c", "d")), ("m", ("d", "e")), ("m", ("e", "f")), ("m", ("f", "a"))),
    (("q", ("a", "b", "c", "d")), ("q", ("c", "d", "e", "f"))),
]

NO_TERMS = [
    # Seven FACTORS, and what is no tuple of pairs.
    (("s", ()),) * 7, [("s", ())], (["s", ()],), (("s",),), (("s", (), ()),), ("s",), ("s", ()), ((),), (((),),),
    (None,),
    # BOXES that are none.
    (("a", ()),), (("S", ()),), (("", ()),), ((None, ()),), ((["s"], ()),), (({}, ()),), ((("s",), ()),), ((1, ()),),
    (("v", ("a",)),), (("ee", ("a", "b")),), (("s", ()), ("x", ())),
    # Too few and too many names.
    (("s", ("a",)),), (("m", ()),), (("m", ("a",)),), (("m", ("a", "b", "c")),), (("q", ("a", "b", "c")),),
    (("e", "ab"),),
    (("q", ("a", "b", "c", "d", "e")),), (("m", ["a", "b"]),), (("m", None),), (("m", {"a": 1, "b": 2}),),
    (("m", {"a", "b"}),),
    # No NAMES.
    (("m", ("a", "")),), (("m", ("a", "A")),), (("m", ("abcdefghi", "b")),), (("m", ("a", "b c")),), (("m", ("a", 1)),),
    (("m", (["a"], "b")),), (("m", ({}, "b")),), (("m", (("a",), "b")),), (("m", ("a", None)),), (("m", (b"a", "b")),),
    # Three times; four times.
    (("m", ("a", "b")), ("m", ("b", "c")), ("m", ("b", "d"))), (("m", ("a", "a")), ("e", ("a", "b"))),
    (("q", ("a", "b", "a", "a")),), (("m", ("a", "a")), ("m", ("a", "a"))), (("q", ("a", "a", "a", "a")),),
    # Twice up, twice down.
    (("e", ("a", "a")),), (("f", ("a", "a")),), (("e", ("a", "b")), ("e", ("c", "a"))),
    (("m", ("a", "b")), ("m", ("a", "c"))),
    (("f", ("a", "b")), ("t", ("b", "c"))), (("q", ("a", "a", "b", "c")),), (("q", ("a", "b", "c", "c")),),
    # Up and down of unlike SPACES; twice of unlike SPACES.
    (("n", ("a", "a")),), (("r", ("a", "b", "c")), ("f", ("a", "d"))), (("e", ("a", "b")), ("t", ("c", "a"))),
    (("n", ("a", "b")), ("m", ("c", "b"))), (("r", ("a", "b", "c")), ("e", ("a", "d"))),
    (("f", ("a", "b")), ("t", ("c", "a"))),
]


class NeedTerm(unittest.TestCase):
    def test_terms(self):
        for at, term in enumerate(TERMS):
            with self.subTest(at=at):
                self.assertIsNone(need_same_by_name(self, need_term, ("gear", "term"), (GEAR, term)))
        for gear in (SMALL_GEAR, BIG_GEAR, BARE_GEAR):
            self.assertIsNone(need_term(gear, ()))
        self.assertIsNone(need_term(BARE_GEAR, (("c", ()), ("a", ()), ("c", ()))))
        self.assertIsNone(need_term(BIG_GEAR, (("zzzzzzzz", tuple("abcd")),)))

    def test_terms_made_at_random(self):
        rnd = random.Random(1)
        for term in terms(rnd, GEAR, 6, 300):
            self.assertIsNone(need_term(GEAR, term))

    def test_what_is_otherwise(self):
        for at, thing in enumerate([*NO_TERMS, *NOTHINGS]):
            with self.subTest(at=at):
                need_refused(self, BadTerm, need_term, GEAR, thing)
                need_refused(self, BadTerm, free, GEAR, thing)
                need_refused(self, BadTerm, joined, GEAR, thing)
                need_refused(self, BadTerm, lambda: need_term(term=thing, gear=GEAR))

    def test_things_of_any_kind_at_each_place(self):
        for at, term in enumerate(TERMS[:11]):
            for number, thing in enumerate(spoiled(term)):
                with self.subTest(at=at, number=number):
                    need_refused(self, BadTerm, need_term, GEAR, thing)

    def test_one_less_of_each_factor_and_its_names(self):
        for thing in shortened((("s", ()), ("q", ("a", "b", "c", "a"))), ((0,), (1,), (1, 1))):
            need_refused(self, BadTerm, need_term, GEAR, thing)

    def test_boxes_of_another_gear(self):
        need_refused(self, BadTerm, need_term, SMALL_GEAR, (("s", ()),))
        need_refused(self, BadTerm, need_term, BARE_GEAR, (("a", ()), ("e", ("a", "b"))))
        need_refused(self, BadTerm, need_term, BARE_GEAR, (("a", ("a",)),))

    def test_bad_gear_ahead_of_bad_term(self):
        for call in (need_term, free, joined):
            for gear in (*NOTHINGS, (), (("v",),), (("b", "a"), ()), put(GEAR, (1, 4, 2, 0, 1), 0)):
                need_refused(self, BadGear, call, gear, ())
                need_refused(self, BadGear, call, gear, None)
                need_refused(self, BadGear, call, gear, [])

    def test_what_is_handed_in_stays_where_it_is_refused(self):
        for thing in ([("s", ())], (["s", ()],), (("m", ["b", "a"]),), [[["a"]]]):
            before = copy.deepcopy(thing)
            for call in (need_term, free, joined):
                need_refused(self, BadTerm, call, GEAR, thing)
            self.assertEqual(thing, before)


class Names(unittest.TestCase):
    def test_free_by_hand(self):
        for term, wanted in (
            ((), ()),
            ((("s", ()),), ()),
            ((("m", ("b", "a")),), (("a", "v", "down"), ("b", "v", "up"))),
            ((("m", ("a", "a")),), ()),
            ((("m", ("zz", "z")), ("m", ("z", "a"))), (("a", "v", "down"), ("zz", "v", "up"))),
            ((("n", ("b", "aa")), ("r", ("c", "a", "ab"))), (
                ("a", "w", "up"), ("aa", "w", "down"), ("ab", "w", "up"), ("b", "v", "up"), ("c", "w", "up"),
            )),
        ):
            self.assertEqual(free(GEAR, term), wanted)

    def test_joined_by_hand(self):
        for term, wanted in (
            ((), []),
            ((("m", ("b", "a")),), []),
            ((("m", ("a", "a")),), ["a"]),
            ((("q", ("z", "b", "b", "z")),), ["b", "z"]),
            ((("m", ("zz", "z")), ("m", ("z", "a")), ("m", ("a", "ab"))), ["a", "z"]),
            ((("n", ("a", "b")), ("t", ("a", "c")), ("r", ("c", "b", "d"))), ["a", "b", "c"]),
        ):
            self.assertEqual(joined(GEAR, term), wanted)

    def test_of_many_terms(self):
        rnd = random.Random(2)
        for term in [*TERMS, *terms(rnd, GEAR, 6, 300)]:
            told = need_same_by_name(self, free, ("gear", "term"), (GEAR, term))
            self.assertEqual(told, free_of(GEAR, term))
            self.assertIs(type(told), tuple)
            self.assertEqual([type(row) for row in told], [tuple] * len(told))
            told = need_same_by_name(self, joined, ("gear", "term"), (GEAR, term))
            self.assertEqual(told, joined_of(term))
            self.assertIs(type(told), list)

    def test_a_change_of_the_list_changes_nothing(self):
        term = (("q", ("z", "b", "b", "z")),)
        told = joined(GEAR, term)
        again = joined(GEAR, term)
        self.assertIsNot(told, again)
        told.clear()
        self.assertEqual(again, ["b", "z"])
        self.assertEqual(joined(GEAR, term), ["b", "z"])


if __name__ == "__main__":
    unittest.main()
