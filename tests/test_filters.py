"""Filters: what each kind hears, and what it keeps of it."""

import random
import unittest

from wrapnets import filters
from wrapnets.filters import KINDS, Filter, Loose, Once, Turn, filter_of

CLASSES = {"loose": Loose, "once": Once, "row": Turn}


def taken(sieve, letters):
    return [sieve.takes(sender, number) for sender, number in letters]


class FormTest(unittest.TestCase):
    def test_kinds(self):
        self.assertEqual(filters.KINDS, ("loose", "once", "row"))

    def test_filter_of_each_kind(self):
        for kind in KINDS:
            found = filter_of(kind)
            self.assertIs(type(found), CLASSES[kind])
            self.assertIsInstance(found, Filter)
            self.assertEqual(found.rows(), ())
            self.assertIsNot(filter_of(kind), found)

    def test_each_class_has_its_own_methods(self):
        for found in (Filter, Loose, Once, Turn):
            for name in ("takes", "rows", "copy"):
                self.assertIn(name, vars(found))

    def test_the_plain_filter_and_loose_hear_all(self):
        for sieve in (Filter(), Loose()):
            letters = [(0, 0), (0, 0), (0, 5), (0, 4), (1, 0), (0, 5)]
            self.assertEqual(taken(sieve, letters), ["heard"] * 6)
            self.assertEqual(sieve.rows(), ())
            self.assertEqual(sieve.copy().rows(), ())
            self.assertIs(type(sieve.copy()), type(sieve))


class OnceTest(unittest.TestCase):
    def test_the_same_pair_again(self):
        sieve = Once()
        self.assertEqual(taken(sieve, [(3, 7), (3, 7), (3, 7)]), ["heard", "again", "again"])
        self.assertEqual(sieve.rows(), ((3, 7),))

    def test_lesser_and_greater_numbers_are_heard(self):
        sieve = Once()
        self.assertEqual(taken(sieve, [(3, 7), (3, 6), (3, 8), (3, 0)]), ["heard"] * 4)
        self.assertEqual(taken(sieve, [(3, 6), (3, 8), (3, 0), (3, 7)]), ["again"] * 4)

    def test_of_several_senders(self):
        sieve = Once()
        self.assertEqual(taken(sieve, [(3, 7), (4, 7), (7, 3), (4, 7)]), ["heard", "heard", "heard", "again"])
        self.assertEqual(sieve.rows(), ((3, 7), (4, 7), (7, 3)))

    def test_rows_rise(self):
        sieve = Once()
        taken(sieve, [(10, 1), (2, 11), (2, 2), (9, 0), (2, 10)])
        self.assertEqual(sieve.rows(), ((2, 2), (2, 10), (2, 11), (9, 0), (10, 1)))


class TurnTest(unittest.TestCase):
    def test_lesser_and_like_numbers_are_late(self):
        sieve = Turn()
        letters = [(3, 2), (3, 2), (3, 1), (3, 0), (3, 3), (3, 2), (3, 9), (3, 4)]
        words = ["heard", "late", "late", "late", "heard", "late", "heard", "late"]
        self.assertEqual(taken(sieve, letters), words)
        self.assertEqual(sieve.rows(), ((3, 9),))

    def test_number_nought_is_heard_once(self):
        self.assertEqual(taken(Turn(), [(0, 0), (0, 0)]), ["heard", "late"])

    def test_of_several_senders(self):
        sieve = Turn()
        self.assertEqual(taken(sieve, [(9, 5), (1, 2), (9, 3), (1, 3)]), ["heard", "heard", "late", "heard"])
        self.assertEqual(sieve.rows(), ((1, 3), (9, 5)))


class CopyTest(unittest.TestCase):
    def test_copies_go_on_by_themselves(self):
        source = random.Random(2)
        for kind in KINDS:
            sieve = filter_of(kind)
            taken(sieve, [(source.randrange(3), source.randrange(5)) for k in range(5)])
            ahead = sieve.rows()
            other, third = sieve.copy(), sieve.copy()
            self.assertIs(type(other), CLASSES[kind])
            self.assertEqual(other.rows(), ahead)
            more = [(source.randrange(4), source.randrange(9)) for k in range(30)]
            self.assertEqual(taken(other, more), taken(third, more))
            self.assertEqual(other.rows(), third.rows())
            self.assertEqual(sieve.rows(), ahead)

    def test_what_the_first_hears_later_its_copy_did_not(self):
        for sieve in (Once(), Turn()):
            other = sieve.copy()
            self.assertEqual(sieve.takes(1, 1), "heard")
            self.assertEqual(other.takes(1, 1), "heard")
