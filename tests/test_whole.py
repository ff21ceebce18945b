"""Promise 0, over the whole program: what is handed in and told, the order of refusals, and the parts together."""

import copy
import itertools
import random
import time
import unittest

from helper import (
    DOWN, GEAR, NOTHINGS, SUM_GEAR, UP, a_sum, few_arrays, need_paper, need_refused, need_witness, spoiled, terms,
    told_otherwise,
)
from slotsure import (
    alike, arrays, definitions, errors, forms, gears, joins, plans, reading, shares, sized, steps, sums,
    terms as termsfile,
    texts,
)
from slotsure.errors import (
    BadArrays, BadDeed, BadDefinition, BadGear, BadLine, BadName, BadNumber, BadPlan, BadSizes, BadStep, BadSum,
    BadTerm,
    NoBox, NoName, TooGreat,
)
from slotsure.shelf import Shelf

ONE = (1, 1)
AB = (("a", "v", "up"), ("b", "v", "down"))
BC = (("b", "v", "up"), ("c", "v", "down"))
TWO = (("a", "v", "up"), ("b", "v", "up"))
TERM = (("f", ("a", "k")), ("m", ("k", "l")), ("q", ("b", "l", "c", "d")), ("s", ()))
SUM = (AB, (((2, 3), (("m", ("a", "b")),)), ((-1, 2), (("m", ("a", "c")), ("m", ("c", "b"))))))
OTHER = (AB, (((2, 3), (("m", ("a", "b")),)),))
PRODUCT = (BC, ((ONE, (("m", ("b", "c")),)),))
EVEN = (TWO, ((ONE, (("e", ("a", "b")),)),))
ROWS = (((0, 1), (1, 2)), ((1, 0), (1, 2)))
ARRAYS = (ROWS,) + ((),) * 7
DEFINITION = (("a", "b"), SUM)
STEPS = (("swap", 0, 1), ("move", 1, (1, 0), -1), ("name", "k", "x"))
SIZES = (3, 2)
PLAN = ((0, 1), (2, 3))

GEAR_ = ("gear", GEAR, BadGear)
TERM_ = ("term", TERM, BadTerm)
SIZES_ = ("sizes", SIZES, BadSizes)
ARRAYS_ = ("arrays", ARRAYS, BadArrays)


def a_sum_as(name, given=SUM):
    return (name, given, BadSum)


# Each function that refuses anything: its arguments' names, good ones, and what each is refused with.
CALLS = (
    (shares.share, ("a", 4, BadNumber), ("b", -6, BadNumber)),
    (shares.plus, ("one", (1, 2), BadNumber), ("other", (2, 3), BadNumber)),
    (shares.times, ("one", (1, 2), BadNumber), ("other", (2, 3), BadNumber)),
    (gears.need_gear, GEAR_), (gears.slots, GEAR_, ("box", "q", NoBox)), (gears.group, GEAR_, ("box", "q", NoBox)),
    (termsfile.need_term, GEAR_, TERM_), (termsfile.free, GEAR_, TERM_), (termsfile.joined, GEAR_, TERM_),
    (steps.walk, GEAR_, TERM_, ("steps", STEPS, BadStep)),
    (forms.weight, GEAR_, TERM_), (forms.form, GEAR_, TERM_), (forms.form_steps, GEAR_, TERM_),
    (sums.need_sum, GEAR_, a_sum_as("given")), (sums.plain, GEAR_, a_sum_as("given")),
    (sums.added, GEAR_, a_sum_as("one"), a_sum_as("other", OTHER)),
    (sums.scaled, GEAR_, a_sum_as("given"), ("by", (2, 3), BadNumber)),
    (sums.multiplied, GEAR_, a_sum_as("one"), a_sum_as("other", PRODUCT)),
    (joins.closed, GEAR_, a_sum_as("given"), ("name", "a", BadName), ("other", "b", BadName)),
    (joins.renamed, GEAR_, a_sum_as("given"), ("pairs", (("a", "x"),), BadName)),
    (joins.even, GEAR_, a_sum_as("given", EVEN), ("names", ("a", "b"), BadName)),
    (joins.odd, GEAR_, a_sum_as("given", EVEN), ("names", ("a", "b"), BadName)),
    (arrays.need_sizes, GEAR_, SIZES_), (arrays.need_arrays, GEAR_, SIZES_, ARRAYS_),
    (arrays.worth, GEAR_, SIZES_, ARRAYS_, a_sum_as("given", EVEN)),
    (plans.cost, GEAR_, SIZES_, TERM_, ("plan", PLAN, BadPlan)), (plans.least_plan, GEAR_, SIZES_, TERM_),
    (plans.worth_by, GEAR_, SIZES_, ARRAYS_, TERM_, ("plan", PLAN, BadPlan)),
    (alike.alike, GEAR_, a_sum_as("one"), a_sum_as("other", OTHER)),
    (alike.check_alike, GEAR_, a_sum_as("one"), a_sum_as("other", OTHER), ("paper", ((), ()), None)),
    (alike.check_unlike, GEAR_, a_sum_as("one"), a_sum_as("other", OTHER), ("witness", (SIZES, ARRAYS, (0, 1)), None)),
    (sized.alike_at, GEAR_, SIZES_, a_sum_as("one"), a_sum_as("other", OTHER)),
    (sized.least_size, GEAR_, a_sum_as("one"), a_sum_as("other", OTHER)),
    (definitions.put_in, GEAR_, ("box", "m", NoBox), ("definition", DEFINITION, BadDefinition), a_sum_as("given")),
    (
        definitions.has_move, GEAR_, ("box", "e", NoBox), ("definition", (("a", "b"), EVEN), BadDefinition),
        ("number", 0, BadNumber),
    ),
    (texts.gear_text, GEAR_), (texts.sum_text, GEAR_, a_sum_as("given")), (texts.arrays_text, GEAR_, SIZES_, ARRAYS_),
    (texts.steps_text, GEAR_, TERM_, ("steps", STEPS, BadStep)),
    (reading.gear_in, ("text", texts.gear_text(GEAR), BadLine)),
    (reading.sum_in, GEAR_, ("text", texts.sum_text(GEAR, SUM), BadLine)),
    (reading.arrays_in, GEAR_, ("text", texts.arrays_text(GEAR, SIZES, ARRAYS), BadLine)),
    (reading.steps_in, GEAR_, TERM_, ("text", texts.steps_text(GEAR, TERM, STEPS), BadLine)),
    (Shelf, GEAR_),
)


def a_shelf():
    shelf = Shelf(GEAR)
    shelf.define("s", (), ((), (((1, 2), ()),)))
    shelf.define("t", ("x", "y"), ((("x", "v", "down"), ("y", "w", "down")), ()))
    shelf.keep("p", SUM, OTHER)
    return shelf


# Each method: its name, its arguments' names, good ones, and what each is refused with.
METHODS = (
    ("define", ("box", "m", NoBox), ("names", ("a", "b"), BadName), a_sum_as("given", OTHER[:1] + ((),))),
    ("undefine", ("box", "s", NoBox)),
    ("keep", ("name", "q", BadName), a_sum_as("one"), a_sum_as("other", OTHER)), ("drop", ("name", "p", NoName)),
    ("defined",), ("names",), ("definition", ("box", "s", NoBox)), ("pair", ("name", "p", NoName)),
    ("full", a_sum_as("given")),
    ("verdict", ("name", "p", NoName)), ("turned", ("deed", ("undefine", "s"), BadDeed)),
    ("arrays_of", SIZES_, ARRAYS_),
    ("gear",), ("twin",),
)

# Near to what is wanted, or far from it.
NEAR = (
    0, 1, -1, 2, "a", "m", "p", "x", "free", (), ((),), ((), ()), (0,), (0, 1), (1, 0), (2, 4), ("a",), ("a", "b"),
    ("a", "a"), (None, None), [("a", "x")],
    (GEAR[0], []), [GEAR[0], GEAR[1]], (AB, []), (AB, None), list(TERM), [], {"a": ()}, ((0, 1), 2), [2, 2], (2.0, 2.0),
    b"free", ("define", "m"),
    (True, True), ("undefine",),
)


def leaves(thing):
    """Each thing in it, itself, too, however deep it stands."""
    yield thing
    if isinstance(thing, (tuple, list)):
        for inner in thing:
            yield from leaves(inner)


class Arguments(unittest.TestCase):
    def need_by_place_and_names(self, call, rows):
        """Needs the same by place, by names in any order, and asked again; what is handed in stays."""
        names = [row[0] for row in rows]
        things = [row[1] for row in rows]
        before = copy.deepcopy(things)
        wanted = call(*things)
        for order in itertools.permutations(range(len(rows))):
            self.assertEqual(call(**{names[at]: things[at] for at in order}), wanted)
        for many in range(len(rows)):
            self.assertEqual(call(*things[:many], **dict(zip(names[many:], things[many:]))), wanted)
        self.assertEqual(things, before)
        return wanted

    def test_functions_by_place_and_by_names(self):
        for call, *rows in CALLS:
            with self.subTest(call=call.__name__):
                told = self.need_by_place_and_names(call, rows)
                # Nothing that could be changed but a list at the top.
                for inner in itertools.islice(leaves(told), 1, None):
                    self.assertIn(type(inner), (tuple, str, int, bool, type(None)))

    def test_methods_by_place_and_by_names(self):
        for word, *rows in METHODS:
            with self.subTest(method=word):
                told = self.need_by_place_and_names(
                    lambda *things, **named: getattr(a_shelf(), word)(*things, **named), rows,
                )
                if word in ("define", "undefine", "keep", "drop"):
                    self.assertIsNone(told)
                elif word != "twin":
                    for inner in itertools.islice(leaves(told), 1, None):
                        self.assertIn(type(inner), (tuple, str, int, bool, type(None)))

    def test_told_lists_are_the_askers_own(self):
        for call, *rows in CALLS:
            told = call(*[row[1] for row in rows])
            if type(told) is list:
                kept = list(told)
                told.append("more")
                self.assertEqual(call(*[row[1] for row in rows]), kept)

    def need_first_refused(self, call, rows, need):
        """Needs each argument to be refused by its own kind, whatever stands behind it."""
        rnd = random.Random(str(rows))
        names = [row[0] for row in rows]
        for at, (_, good, kind) in enumerate(rows):
            if kind is None:
                continue
            wrong = list(NOTHINGS)
            # What of a name, of STEPS or of a deed is wrong further in may be refused otherwise.
            if isinstance(good, tuple) and kind in (
                BadGear, BadTerm, BadSum, BadSizes, BadArrays, BadPlan, BadDefinition,
            ):
                wrong.extend(itertools.islice(spoiled(good), 300))
            for number, thing in enumerate(wrong):
                # No steps, no pairs, the text of no STEPS.
                if kind in (BadStep, BadName) and type(thing) is list and not thing:
                    continue
                if kind is BadLine and type(thing) is str and thing == "":
                    continue
                for behind in (
                    [row[1] for row in rows[at + 1:]], [None] * len(rows[at + 1:]),
                    rnd.choices(NEAR, k=len(rows) - at - 1)
                ):
                    things = [row[1] for row in rows[:at]] + [thing] + list(behind)
                    with self.subTest(argument=names[at], number=number):
                        need(kind, call, *things)

    def test_functions_refuse_the_first_that_is_none(self):
        for call, *rows in CALLS:
            with self.subTest(call=call.__name__):
                self.need_first_refused(call, rows, lambda kind, *things: need_refused(self, kind, *things))

    def test_methods_refuse_the_first_that_is_none(self):
        for word, *rows in METHODS:
            shelf, twin = a_shelf(), a_shelf()
            with self.subTest(method=word):
                self.need_first_refused(
                    getattr(shelf, word), rows, lambda kind, *things: need_refused(self, kind, *things),
                )
                self.assertEqual(shelf, twin)

    def test_things_of_any_kind_are_refused_by_nothing_else(self):
        families = (errors.Refused, errors.Barred, errors.Beyond)
        rnd = random.Random(100)
        things = (*NOTHINGS, *NEAR, GEAR, TERM, SUM, ARRAYS, SIZES, PLAN, STEPS, DEFINITION, EVEN)
        calls = [(call, rows) for call, *rows in CALLS]
        calls.extend((getattr(a_shelf(), word), rows) for word, *rows in METHODS)
        for call, rows in calls:
            for _ in range(150):
                row = [good if rnd.random() < 0.5 else rnd.choice(things) for _, good, _ in rows]
                try:
                    first = call(*row)
                except families as refusal:
                    with self.assertRaises(type(refusal)) as held:
                        call(*row)
                    self.assertEqual(repr(vars(held.exception).keys()), repr(vars(refusal).keys()))
                else:
                    if call.__name__ not in ("drop", "undefine", "define", "keep", "twin", "Shelf"):
                        self.assertEqual(call(*row), first)


class Together(unittest.TestCase):
    GEAR = (("v",), (
        ("a", (UP,), ()), ("b", (UP,), ()), ("f", (UP, UP), (((1, 0), -1),)), ("m", (UP, DOWN), ()),
        ("o", (DOWN, DOWN), (((1, 0), 1),)), ("s", (), ()),
    ))
    FREES = ((), (("p", "v", "up"), ("q", "v", "up")), (("p", "v", "up"), ("q", "v", "down")))

    def a_shelf(self):
        shelf = Shelf(self.GEAR)
        free = (("x", "v", "up"), ("y", "v", "up"))
        bare = (free, (((3, 2), (("a", ("x",)), ("b", ("y",)))),))
        shelf.define("f", ("x", "y"), joins.odd(self.GEAR, bare, ("x", "y")))
        shelf.define("s", (), ((), ((ONE, (("m", ("k", "k")),)), ((1, 2), ()))))
        return shelf

    def through_text(self, given):
        return reading.sum_in(self.GEAR, texts.sum_text(self.GEAR, given))

    def need_same_verdict(self, shelf, one, other):
        """Needs the verdict, and what is told of the FULL SUMS from their texts, to be the same; tells it."""
        gear = self.GEAR
        shelf.keep("p", one, other)
        told = shelf.verdict("p")
        whole, behind = (self.through_text(shelf.full(given)) for given in (one, other))
        self.assertEqual(told, alike.alike(gear, whole, behind))
        shelf.keep("q", self.through_text(one), self.through_text(other))
        self.assertEqual(shelf.verdict("q"), told)
        shelf.keep("q", whole, behind)
        self.assertEqual(shelf.verdict("q"), told)
        if told[0] == "alike":
            need_paper(self, gear, whole, behind, told[1])
            for (_, term), row in zip(whole[1] + behind[1], told[1][1]):
                self.assertEqual(reading.steps_in(gear, term, texts.steps_text(gear, term, row[-1])), row[-1])
            self.assertIsNone(sized.least_size(gear, whole, behind))
            for size in (1, 2):
                self.assertEqual(sized.alike_at(gear, (size,), whole, behind), ("alike",))
        else:
            need_witness(self, gear, whole, behind, told[1])
            sizes, entries, place = told[1]
            self.assertEqual(reading.arrays_in(gear, texts.arrays_text(gear, sizes, entries)), (sizes, entries))
            # By ARRAYS of all, the SUMS themselves differ there, too.
            everything = shelf.arrays_of(sizes, entries)
            worths = [dict(arrays.worth(gear, sizes, everything, given)).get(place) for given in (one, other)]
            self.assertNotEqual(*worths)
        return told[0]

    def test_a_sum_and_its_full_one_through_texts(self):
        rnd = random.Random(101)
        shelf = self.a_shelf()
        gear = self.GEAR
        self.assertEqual(reading.gear_in(texts.gear_text(gear)), gear)
        seen = {"alike": 0, "unlike": 0}
        for free in self.FREES:
            for _ in range(10):
                one = a_sum(rnd, gear, free, 3, 2)
                try:
                    whole = shelf.full(one)
                    alike.alike(gear, whole, whole)
                except TooGreat:
                    continue
                self.assertEqual(self.through_text(one), one)
                seen[self.need_same_verdict(shelf, one, told_otherwise(rnd, gear, whole))] += 1
                other = told_otherwise(rnd, gear, one)
                seen[self.need_same_verdict(shelf, one, (free, other[1][1:]))] += 1
                entries = few_arrays(rnd, gear, (2,), 3)
                entries = tuple(() if box in ("f", "s") else rows for (box, _, _), rows in zip(gear[1], entries))
                self.assertEqual(reading.arrays_in(gear, texts.arrays_text(gear, (2,), entries)), ((2,), entries))
                everything = shelf.arrays_of((2,), entries)
                self.assertEqual(arrays.worth(gear, (2,), everything, one), arrays.worth(gear, (2,), entries, whole))
        self.assertGreater(min(seen.values()), 8)

    def test_sums_added_multiplied_and_joined(self):
        """What is done to SUMS and then PUT IN is ALIKE to what is PUT IN and then done."""
        rnd = random.Random(102)
        shelf = self.a_shelf()
        gear = self.GEAR
        seen = 0
        for _ in range(30):
            one, other = (a_sum(rnd, gear, self.FREES[2], 2, 2) for _ in range(2))
            behind = joins.renamed(gear, other, (("p", "r"), ("q", "p")))
            try:
                for pair in (
                    (sums.added(gear, one, other), sums.added(gear, shelf.full(one), shelf.full(other))),
                    (sums.multiplied(gear, one, behind), sums.multiplied(gear, shelf.full(one), shelf.full(behind))),
                    (joins.closed(gear, one, "q", "p"), joins.closed(gear, shelf.full(one), "q", "p")),
                ):
                    self.assertEqual(alike.alike(gear, shelf.full(pair[0]), pair[1])[0], "alike")
                    seen += 1
            except TooGreat:
                continue
        self.assertGreater(seen, 20)

    def test_walks_of_all_told_steps_through_texts(self):
        rnd = random.Random(103)
        for term in terms(rnd, SUM_GEAR, 4, 40):
            try:
                told = forms.form_steps(SUM_GEAR, term)
            except TooGreat:
                continue
            text = texts.steps_text(SUM_GEAR, term, told)
            self.assertEqual(reading.steps_in(SUM_GEAR, term, text), told)

    def test_all_within_seconds(self):
        start = time.perf_counter()
        for call, *rows in CALLS:
            call(*[row[1] for row in rows])
        for word, *rows in METHODS:
            getattr(a_shelf(), word)(*[row[1] for row in rows])
        self.assertLess(time.perf_counter() - start, 5)


if __name__ == "__main__":
    unittest.main()
