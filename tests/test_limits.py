"""Promise: slotsure.limits has the seven names, each with its number."""

import unittest

from slotsure import limits

NUMBERS = {
    "MOST": 6,
    "LONG": 400,
    "HEAVY": 5000,
    "WIDE": 200000,
    "CHOICES": 20000,
    "GREATEST": 24,
    "PAIRS": 8,
}


class Limits(unittest.TestCase):
    def test_each_name_has_its_number(self):
        for name, number in NUMBERS.items():
            with self.subTest(name=name):
                told = getattr(limits, name)
                self.assertEqual(told, number)
                self.assertIs(type(told), int)


if __name__ == "__main__":
    unittest.main()
