"""Promises 0 and 1 as slotsure.words tells them: what is whole, what is a NAME."""

import string
import unittest

from slotsure.words import is_name, is_whole

FAR = 10 ** 300


class LooksWhole:
    """Says that it is an int, and can't be compared."""

    @property
    def __class__(self):
        return int


class LooksText:
    """Says that it is a text, and has no length."""

    @property
    def __class__(self):
        return str


class Sour:
    """Bears nothing that may be asked of it."""

    def fail(self, *told):
        raise RuntimeError("asked")

    __eq__ = __lt__ = __le__ = __gt__ = __ge__ = fail
    __len__ = __iter__ = __bool__ = __hash__ = __int__ = __index__ = __str__ = __repr__ = fail


NEITHER = (
    None, True, False, (), ("a",), (1,), [], ["a"], [1], {}, {"a": 1}, set(), {"a"}, b"", b"a", bytearray(b"a"),
    0.5, 1.0, float("nan"), float("inf"), 1j, object(), int, str, len, Ellipsis, NotImplemented, range(2),
    LooksWhole(), LooksText(), Sour(), lambda: 1, ValueError("a"),
)

# The signs from the blank to ~, and line ends, without the small letters.
OTHER_SIGNS = [chr(k) for k in range(32, 127) if chr(k) not in string.ascii_lowercase] + ["\n"]


class IsName(unittest.TestCase):
    def test_texts_of_one_to_eight_small_letters(self):
        for text in ("a", "z", "ab", "abc", "zzzz", "slots", "mnopqr", "tensors", "abcdefgh", "aaaaaaaa"):
            with self.subTest(text=text):
                self.assertIs(is_name(text), True)

    def test_each_letter_at_each_place_of_each_length(self):
        for letter in string.ascii_lowercase:
            for length in range(1, 9):
                for at in range(length):
                    self.assertIs(is_name("k" * at + letter + "k" * (length - at - 1)), True)

    def test_too_short_or_too_long(self):
        for text in ("", "abcdefghi", "a" * 9, "a" * 16, "a" * 200000):
            with self.subTest(length=len(text)):
                self.assertIs(is_name(text), False)

    def test_another_sign_at_any_place_of_any_length(self):
        for sign in OTHER_SIGNS:
            for length in range(1, 9):
                for at in range(length):
                    text = "k" * at + sign + "k" * (length - at - 1)
                    self.assertIs(is_name(text), False, text)

    def test_another_sign_beside_a_whole_name(self):
        for sign in OTHER_SIGNS:
            for text in (sign + "abc", "abc" + sign, "ab" + sign + "c", sign + "abcdefgh", "abcdefgh" + sign):
                self.assertIs(is_name(text), False, text)

    def test_small_letters_beyond_a_to_z(self):
        for sign in ("\u00e9", "\u00df", "\u00aa", "\u03b1", "\u0430", "\uff41"):
            for text in (sign, "ab" + sign, sign + "ab"):
                self.assertIs(is_name(text), False, ascii(text))

    def test_things_that_are_no_text(self):
        for at, thing in enumerate([*NEITHER, 3, 0, -1, 2 ** 70]):
            with self.subTest(at=at):
                self.assertIs(is_name(thing), False)

    def test_by_its_name(self):
        self.assertIs(is_name(thing="abc"), True)
        self.assertIs(is_name(thing="Abc"), False)
        self.assertIs(is_name(thing=None), False)

    def test_asked_again_the_same_and_nothing_is_changed(self):
        thing = ["a", ["b"]]
        for _ in range(3):
            self.assertIs(is_name("abc"), True)
            self.assertIs(is_name("aBc"), False)
            self.assertIs(is_name(thing), False)
        self.assertEqual(thing, ["a", ["b"]])


class IsWhole(unittest.TestCase):
    def test_from_least_to_most_both_included(self):
        for least, most in ((0, 0), (0, 1), (1, 24), (-5, 5), (-9, -4), (0, 2 ** 64), (-FAR, FAR), (FAR, FAR + 2)):
            for thing in (least, (least + most) // 2, most):
                with self.subTest(thing=thing, least=least, most=most):
                    self.assertIs(is_whole(thing, least, most), True)

    def test_just_outside(self):
        for least, most in ((0, 0), (0, 1), (1, 24), (-5, 5), (-9, -4), (0, 2 ** 64), (-FAR, FAR), (FAR, FAR + 2)):
            for thing in (least - 1, most + 1):
                with self.subTest(thing=thing, least=least, most=most):
                    self.assertIs(is_whole(thing, least, most), False)

    def test_least_above_most(self):
        for least, most in ((1, 0), (5, -5), (FAR, -FAR), (-4, -9)):
            for thing in (least, most, (least + most) // 2, 0, least + 1, most - 1):
                with self.subTest(thing=thing, least=least, most=most):
                    self.assertIs(is_whole(thing, least, most), False)

    def test_true_and_false_are_none(self):
        for least, most in ((0, 1), (0, 0), (1, 1), (-5, 5), (-FAR, FAR)):
            self.assertIs(is_whole(True, least, most), False)
            self.assertIs(is_whole(False, least, most), False)

    def test_things_that_are_no_int(self):
        for at, thing in enumerate([*NEITHER, "", "1", "a", "0"]):
            for least, most in ((0, 1), (-FAR, FAR), (1, 0)):
                with self.subTest(at=at, least=least, most=most):
                    self.assertIs(is_whole(thing, least, most), False)

    def test_by_its_names_in_any_order(self):
        self.assertIs(is_whole(thing=3, least=1, most=5), True)
        self.assertIs(is_whole(most=5, thing=3, least=1), True)
        self.assertIs(is_whole(3, most=5, least=1), True)
        self.assertIs(is_whole(most=1, least=5, thing=3), False)
        self.assertIs(is_whole(least=0, most=1, thing=True), False)

    def test_asked_again_the_same_and_nothing_is_changed(self):
        thing = [1, [2]]
        for _ in range(3):
            self.assertIs(is_whole(3, 1, 5), True)
            self.assertIs(is_whole(6, 1, 5), False)
            self.assertIs(is_whole(thing, 1, 5), False)
        self.assertEqual(thing, [1, [2]])


if __name__ == "__main__":
    unittest.main()
