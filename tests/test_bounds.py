"""The bounds by their numbers."""

import unittest

from wrapnets import bounds

NUMBERS = {
    "HOUSES": 8, "ROADS": 14, "DELAY": 2, "NARROW": 16, "WIDE": 80, "FAR": 24, "HOPS": 8, "COUNT": 4, "AGE": 10,
    "NOTES": 5, "JOIN": 6, "WEAVE": 20, "ROOMS": 6, "NUMBERS": 16, "HANDS": 6, "GATES": 3, "TEXT": 12, "DEEDS": 300,
    "BEATS": 3000, "BATCH": 30, "REST": 1150,
}


class BoundsTest(unittest.TestCase):
    def test_each_has_its_number(self):
        for name, number in NUMBERS.items():
            with self.subTest(name):
                self.assertEqual(getattr(bounds, name), number)
                self.assertIs(type(getattr(bounds, name)), int)

    def test_none_is_the_empty_tuple(self):
        self.assertEqual(bounds.NONE, ())
        self.assertIs(type(bounds.NONE), tuple)

    def test_rest_is_as_told(self):
        told = 2 * (bounds.HOPS * bounds.DELAY + bounds.JOIN + 1) * (bounds.COUNT + 1) * (bounds.COUNT + 1)
        self.assertEqual(bounds.REST, told)
