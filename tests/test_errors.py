"""Promise: slotsure.errors has three families and the twenty refusals under them."""

import unittest

from slotsure import errors

FAMILIES = {"Refused": ValueError, "Barred": LookupError, "Beyond": ArithmeticError}

# Each refusal: its family, then its fields by place.
REFUSALS = {
    "BadGear": ("Refused", ("why",)),
    "BadTerm": ("Refused", ("why",)),
    "BadSum": ("Refused", ("why",)),
    "BadSizes": ("Refused", ("why",)),
    "BadArrays": ("Refused", ("why",)),
    "BadNumber": ("Refused", ("why",)),
    "BadName": ("Refused", ("why",)),
    "BadPlan": ("Refused", ("why",)),
    "BadDefinition": ("Refused", ("why",)),
    "BadDeed": ("Refused", ("why",)),
    "BadStep": ("Refused", ("number",)),
    "BadLine": ("Refused", ("line",)),
    "NoBox": ("Barred", ("name",)),
    "NoName": ("Barred", ("name",)),
    "NotDefined": ("Barred", ("name",)),
    "Unfit": ("Barred", ("others",)),
    "Ring": ("Barred", ("boxes",)),
    "NotSo": ("Barred", ("box", "number")),
    "TooGreat": ("Beyond", ("most",)),
    "Full": ("Beyond", ("most",)),
}

# What a refusal may be made of, whatever it is.
THINGS = ("a", "", "two words", 0, -3, 2 ** 70, None, (), ("a", "b"), (("a", 1),), True, False)

OTHER_BUILTINS = (KeyError, IndexError, ZeroDivisionError, OverflowError)


def refusal(name):
    return getattr(errors, name)


def catches(kind, error):
    """Whether `except kind` catches the error."""
    try:
        raise error
    except kind as caught:
        return caught is error
    except Exception:
        return False


def values_for(fields, at):
    """A thing for each field, another one for each of two fields."""
    return [THINGS[(at + place) % len(THINGS)] for place in range(len(fields))]


class Fields(unittest.TestCase):
    def need_fields(self, error, fields, values):
        for field, value in zip(fields, values):
            self.assertIs(getattr(error, field), value)
        self.assertEqual(sorted(vars(error)), sorted(fields))

    def test_made_by_place(self):
        for name, (_, fields) in REFUSALS.items():
            for at in range(len(THINGS)):
                values = values_for(fields, at)
                with self.subTest(name=name, values=values):
                    self.need_fields(refusal(name)(*values), fields, values)

    def test_made_by_names(self):
        for name, (_, fields) in REFUSALS.items():
            for at in range(len(THINGS)):
                values = values_for(fields, at)
                with self.subTest(name=name, values=values):
                    named = dict(zip(fields, values))
                    self.need_fields(refusal(name)(**named), fields, values)

    def test_not_so_by_names_both_ways_about_and_mixed(self):
        for error in (
            errors.NotSo("b", 2),
            errors.NotSo("b", number=2),
            errors.NotSo(box="b", number=2),
            errors.NotSo(number=2, box="b"),
        ):
            self.need_fields(error, ("box", "number"), ("b", 2))

    def test_fields_stay_after_others_are_made_and_raised(self):
        made = []
        for at in range(len(THINGS)):
            for name, (_, fields) in REFUSALS.items():
                values = values_for(fields, at)
                made.append((refusal(name)(*values), fields, values))
        for error, _, _ in made:
            self.assertTrue(catches(type(error), error))
        for error, fields, values in made:
            self.need_fields(error, fields, values)

    def test_fields_are_there_where_it_is_caught(self):
        for name, (_, fields) in REFUSALS.items():
            values = values_for(fields, 8)
            with self.subTest(name=name):
                with self.assertRaises(refusal(name)) as held:
                    raise refusal(name)(*values)
                self.need_fields(held.exception, fields, values)

    def test_what_it_is_made_of_is_not_changed(self):
        for name, (_, fields) in REFUSALS.items():
            values = [["a", ["b"]] for _ in fields]
            refusal(name)(*values)
            self.assertEqual(values, [["a", ["b"]] for _ in fields])

    def test_made_of_too_few_or_too_many_or_by_another_name(self):
        for name, (_, fields) in REFUSALS.items():
            with self.subTest(name=name):
                kind = refusal(name)
                self.assertRaises(TypeError, kind)
                self.assertRaises(TypeError, kind, *["a"] * (len(fields) + 1))
                self.assertRaises(TypeError, kind, other="a")


class Families(unittest.TestCase):
    def test_a_family_stands_straight_under_its_builtin(self):
        for name, builtin in FAMILIES.items():
            with self.subTest(name=name):
                self.assertEqual(refusal(name).__bases__, (builtin,))

    def test_a_refusal_stands_straight_under_its_family(self):
        for name, (family, _) in REFUSALS.items():
            with self.subTest(name=name):
                self.assertEqual(refusal(name).__bases__, (refusal(family),))

    def test_each_is_called_by_its_name_and_made_in_this_file(self):
        for name in [*FAMILIES, *REFUSALS]:
            with self.subTest(name=name):
                self.assertEqual(refusal(name).__name__, name)
                self.assertEqual(refusal(name).__module__, "slotsure.errors")

    def test_caught_by_its_own_name_its_family_and_its_builtin_alone(self):
        for name, (family, fields) in REFUSALS.items():
            error = refusal(name)(*["a"] * len(fields))
            with self.subTest(name=name):
                for other in REFUSALS:
                    self.assertEqual(catches(refusal(other), error), other == name)
                for other, builtin in FAMILIES.items():
                    self.assertEqual(catches(refusal(other), error), other == family)
                    self.assertEqual(catches(builtin, error), other == family)
                for other in OTHER_BUILTINS:
                    self.assertFalse(catches(other, error))


if __name__ == "__main__":
    unittest.main()
