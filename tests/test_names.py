"""slotsure.names, which others lean on: new NAMES, and JOINED names kept apart."""

import unittest

from helper import names_of, normal
from slotsure.names import apart, exchanged, fresh, joined_in, names_in

LETTERS = "abcdefghijklmnopqrstuvwxyz"
TERM = (("q", ("a", "b", "c", "a")), ("m", ("d", "b")))


class Names(unittest.TestCase):
    def test_new_ones_short_ones_ahead(self):
        self.assertEqual(fresh([], 0), [])
        self.assertEqual(fresh([], 3), ["a", "b", "c"])
        self.assertEqual(fresh(["a", "c"], 3), ["b", "d", "e"])
        self.assertEqual(fresh({"a": 1}, 1), ["b"])
        self.assertEqual(fresh(list(LETTERS), 2), ["aa", "ab"])
        self.assertEqual(fresh([], 28)[25:], ["z", "aa", "ab"])

    def test_more_than_there_are_of_two_letters(self):
        told = fresh([], 26 + 26 * 26 + 2)
        self.assertEqual(told[-3:], ["zz", "aaa", "aab"])
        self.assertEqual(len(set(told)), len(told))

    def test_names_and_those_that_are_joined(self):
        self.assertEqual(names_in(TERM), ["a", "b", "c", "a", "d", "b"])
        self.assertEqual(joined_in(TERM), ["a", "b"])
        self.assertEqual(joined_in(()), [])

    def test_exchanged_all_at_once(self):
        self.assertEqual(exchanged(TERM, {"a": "b", "b": "a"}), (("q", ("b", "a", "c", "b")), ("m", ("d", "a"))))
        self.assertEqual(exchanged(TERM, {}), TERM)

    def test_apart_from_what_is_taken(self):
        for taken in ([], ["x"], ["a"], ["a", "b"], ["b", "e", "f", "g"], list(LETTERS)):
            told = apart(TERM, taken)
            self.assertEqual(normal(told), normal(TERM))
            self.assertEqual([name for name in joined_in(told) if name in taken], [])
        # FREE names stay, also where they are taken.
        self.assertEqual(apart(TERM, ["c", "d"]), TERM)
        self.assertEqual(len(set(names_of(apart(TERM, ["a", "b"])))), 4)


if __name__ == "__main__":
    unittest.main()
