"""Texts cut, judged as parts, put together again; heaps."""

import copy
import random
import unittest
from itertools import permutations, product

from tests.samples import ANYTHING, altered
from wrapnets.cutting import Heap, are_parts, cut, put_together
from wrapnets.errors import NetError, Torn

SIGNS = "".join([chr(number) for number in range(32, 127)])


def texts():
    for many in (0, 1, 2, 15, 16, 17, 31, 32, 33, 80, 81, 95):
        yield SIGNS[:many]
        yield "a" * many


class CutTest(unittest.TestCase):
    def test_by_numbers(self):
        self.assertEqual(cut("", 16), ())
        self.assertEqual(cut("a", 16), ((0, "a"),))
        self.assertEqual(cut("ab", 1), ((0, "a"), (1, "b")))
        self.assertEqual(cut("abc", 3), ((0, "abc"),))
        self.assertEqual(cut("abcd", 3), ((0, "abc"), (3, "d")))
        self.assertEqual(cut("abcdefg", 3), ((0, "abc"), (3, "def"), (6, "g")))
        self.assertEqual(cut("abcdef", 3), ((0, "abc"), (3, "def")))
        self.assertEqual(cut("abc", 80), ((0, "abc"),))

    def test_each_but_the_last_is_of_size(self):
        for text, size in product(texts(), (1, 2, 15, 16, 17, 80, 81, 1000)):
            parts = cut(text, size)
            self.assertIs(type(parts), tuple)
            self.assertEqual({type(part) for part in parts} - {tuple}, set())
            self.assertEqual([first for first, signs in parts], list(range(0, len(text), size)))
            self.assertTrue(all(len(signs) == size for first, signs in parts[:-1]))
            self.assertEqual("".join(signs for first, signs in parts), text)
            self.assertIs(are_parts(text, size, parts), True)
            self.assertEqual(put_together(len(text), parts), text)

    def test_a_size_of_nothing_is_no_error(self):
        self.assertEqual(cut("abc", 0), ())
        self.assertEqual(cut("abc", -1), ())
        self.assertEqual(cut("", 0), ())


class PartsTest(unittest.TestCase):
    text = "abcabcd"

    def judged(self, thing, size=3):
        ahead = copy.deepcopy(thing)
        told = are_parts(self.text, size, thing)
        self.assertEqual(thing, ahead)
        self.assertIs(type(told), bool)
        return told

    def test_right_ones(self):
        self.assertTrue(self.judged(((0, "abc"), (3, "abc"), (6, "d"))))
        self.assertTrue(self.judged(tuple((at, sign) for at, sign in enumerate(self.text))))
        self.assertTrue(self.judged(((0, "abcabcd"),), 7))
        self.assertTrue(self.judged(((0, "abcabcd"),), 80))
        self.assertIs(are_parts("", 16, ()), True)

    def test_overlapping_ones(self):
        self.assertTrue(self.judged(((0, "abc"), (1, "bca"), (2, "cab"), (4, "bcd"))))
        self.assertTrue(self.judged(((0, "abc"), (2, "ca"), (4, "bcd"))))
        # within the one ahead of it
        self.assertTrue(self.judged(((0, "abc"), (1, "b"), (3, "abc"), (4, "b"), (6, "d"))))

    def test_a_part_out(self):
        parts = cut(self.text, 2)
        for at in range(len(parts)):
            self.assertFalse(self.judged(parts[:at] + parts[at + 1:]))
        self.assertFalse(self.judged(()))
        # the part within another one doesn't take back what that one covers
        self.assertTrue(self.judged(((0, "abca"), (1, "b"), (4, "bcd")), 4))
        self.assertFalse(self.judged(((0, "abca"), (1, "b"), (5, "cd")), 4))

    def test_twice_or_turned(self):
        parts = cut(self.text, 3)
        for at in range(3):
            self.assertFalse(self.judged(parts[:at + 1] + parts[at:]))
        for turned in permutations(parts):
            self.assertIs(self.judged(turned), turned == parts)
        # one first twice, with other signs
        self.assertFalse(self.judged(((0, "ab"), (0, "abc"), (3, "abc"), (6, "d"))))

    def test_lists_are_no_tuples(self):
        parts = cut(self.text, 3)
        self.assertFalse(self.judged(list(parts)))
        for at in range(3):
            self.assertFalse(self.judged(altered(parts, at, list(parts[at]))))

    def test_another_place(self):
        parts = cut(self.text, 3)
        for at, place in product(range(3), list(range(-8, 20)) + [10 ** 29, -(10 ** 29)]):
            changed = altered(parts, at, (place, parts[at][1]))
            self.assertIs(self.judged(changed), place == parts[at][0], changed)
        self.assertIs(are_parts("aaaa", 2, ((0, "aa"), (-2, "aa"))), False)
        self.assertIs(are_parts("aaaa", 4, ((-4, "aaaa"),)), False)
        self.assertIs(are_parts("aaaa", 2, ((0, "aa"), (1, "aa"), (3, "a"))), True)

    def test_another_sign(self):
        parts = cut(self.text, 3)
        for signs in ("abd", "Abc", "ab ", "cba", "bca"):
            self.assertFalse(self.judged(altered(parts, 0, (0, signs))))

    def test_empty_or_long_ones(self):
        parts = cut(self.text, 3)
        for at in range(3):
            self.assertFalse(self.judged(altered(parts, at, (parts[at][0], ""))))
            for place in range(9):
                self.assertFalse(self.judged(tuple(sorted(parts + ((place, ""),)))))
        self.assertFalse(self.judged(((0, "abca"), (4, "bcd"))))
        self.assertFalse(self.judged(((0, "abc"), (3, "abcd"))))
        self.assertFalse(self.judged(parts, 2))
        # signs beyond the end of the text
        self.assertFalse(self.judged(((0, "abc"), (3, "abc"), (6, "d ")), 3))
        self.assertFalse(self.judged(parts + ((7, "a"),)))
        self.assertFalse(self.judged(parts + ((7, ""),)))
        self.assertIs(are_parts("", 3, ((0, ""),)), False)
        self.assertIs(are_parts("", 3, ((0, "a"),)), False)

    def test_anything(self):
        parts = cut(self.text, 3)
        more = [1, "abc", ("abc",), (0, "bca"), ((0, "abc"),), {0: "abc"}, [(0, "abc")], ((0, "abc", 1),), (("abc", 0),)]
        for thing in ANYTHING + more:
            with self.subTest(thing):
                self.assertFalse(self.judged(thing))
                self.assertFalse(self.judged(parts + (thing,)))
                for at in range(3):
                    self.assertFalse(self.judged(altered(parts, at, thing)))
                    self.assertFalse(self.judged(altered(parts, at, parts[at] + (thing,))))
                    self.assertFalse(self.judged(altered(parts, at, (thing, parts[at][1]))))
                    if thing != parts[at][1]:
                        self.assertFalse(self.judged(altered(parts, at, (parts[at][0], thing))))
        self.assertFalse(self.judged(((False, "abc"),) + parts[1:]))
        self.assertIs(are_parts("ab", 1, ((0, "a"), (True, "b"))), False)
        for thing in ANYTHING:
            self.assertIs(are_parts("", 3, thing), thing == () and isinstance(thing, tuple))

    def test_as_reckoned_sign_by_sign(self):
        source = random.Random(31)
        seen = set()
        for many in range(4000):
            text = "".join(source.choice("ab") for sign in range(source.randint(0, 5)))
            size = source.randint(1, 3)
            parts = [(at, text[at:at + source.randint(1, 3)]) for at in range(len(text)) if source.random() < 0.7]
            if source.random() < 0.3:
                parts.append((source.randint(0, 5), source.choice(("", "a", "b", "ab"))))
            due = [first for first, signs in parts] == sorted({first for first, signs in parts})
            due = due and all(1 <= len(signs) <= size for first, signs in parts)
            due = due and all(text[first:].startswith(signs) for first, signs in parts)
            covered = {first + at for first, signs in parts for at in range(len(signs))}
            due = due and covered == set(range(len(text)))
            seen.add(due)
            self.assertIs(are_parts(text, size, tuple(parts)), due, (text, size, parts))
        self.assertEqual(seen, {True, False})


class TogetherTest(unittest.TestCase):
    def torn(self, whole, parts):
        ahead = copy.deepcopy(parts)
        with self.assertRaises(Torn) as caught:
            put_together(whole, parts)
        self.assertEqual(parts, ahead)
        self.assertIs(type(caught.exception.at), int)
        return caught.exception.at

    def test_in_any_order(self):
        for parts in permutations(cut("abcdefg", 2)):
            self.assertEqual(put_together(7, parts), "abcdefg")

    def test_overlapping_and_twice(self):
        self.assertEqual(put_together(5, ((3, "de"), (0, "abc"), (1, "bcd"), (0, "abc"))), "abcde")
        self.assertEqual(put_together(0, ()), "")

    def test_some_sign_is_not_covered(self):
        parts = cut("abcdefg", 2)
        for at in range(4):
            self.assertIsNone(put_together(7, parts[:at] + parts[at + 1:]))
        self.assertIsNone(put_together(1, ()))
        self.assertIsNone(put_together(8, parts))
        self.assertIsNone(put_together(3, ((0, "ab"), (0, "ab"), (1, "b"))))

    def test_torn_by_unlike_signs(self):
        for parts in permutations(((0, "abc"), (1, "bxd"), (3, "de"), (4, "f"))):
            self.assertEqual(self.torn(5, parts), 2)
        self.assertEqual(self.torn(2, ((0, "ab"), (0, "xb"))), 0)
        self.assertEqual(self.torn(1, ((0, "a"), (0, "A"))), 0)
        # the second and the third are unlike alone
        self.assertEqual(self.torn(3, ((0, "a"), (1, "b"), (0, "axc"))), 1)

    def test_torn_beyond_the_whole(self):
        self.assertEqual(self.torn(3, ((0, "abcd"),)), 3)
        self.assertEqual(self.torn(3, ((0, "abc"), (5, "xy"))), 5)
        self.assertEqual(self.torn(3, ((7, "x"), (0, "abc"), (5, "xy"))), 5)
        self.assertEqual(self.torn(0, ((0, "a"),)), 0)
        self.assertEqual(self.torn(3, ((3, "d"), (0, "abc"))), 3)

    def test_the_least_place_of_both(self):
        for parts in permutations(((0, "abc"), (2, "x"), (3, "d"))):
            self.assertEqual(self.torn(3, parts), 2)
        for parts in permutations(((0, "abc"), (4, "x"), (4, "y"))):
            self.assertEqual(self.torn(4, parts), 4)

    def test_torn_although_some_sign_is_not_covered(self):
        self.assertEqual(self.torn(5, ((3, "x"), (3, "y"))), 3)
        self.assertEqual(self.torn(5, ((1, "ab"), (2, "x"))), 2)
        self.assertEqual(self.torn(5, ((6, "x"),)), 6)
        self.assertTrue(issubclass(Torn, NetError))


class HeapTest(unittest.TestCase):
    def test_parts_in_any_order(self):
        parts = cut("abcdefg", 2)
        for order in permutations(parts):
            heap = Heap(7)
            covered = {}
            for at, (first, signs) in enumerate(order):
                self.assertIs(heap.is_whole(), False)
                self.assertIsNone(heap.add(first, signs))
                covered.update({first + k: sign for k, sign in enumerate(signs)})
                self.assertEqual(heap.places(), tuple(sorted(covered)))
                self.assertEqual(heap.text(), "".join(covered[place] for place in sorted(covered)))
                self.assertIs(heap.is_whole(), at == 3)
            self.assertEqual(heap.text(), "abcdefg")
            self.assertEqual(heap.places(), tuple(range(7)))

    def test_at_first(self):
        heap = Heap(3)
        self.assertEqual((heap.places(), heap.text(), heap.is_whole()), ((), "", False))
        self.assertIs(Heap(0).is_whole(), True)

    def test_some_twice_and_overlapping(self):
        heap = Heap(5)
        for first, signs in ((3, "de"), (3, "de"), (3, "d"), (1, "bc"), (2, "cd")):
            heap.add(first, signs)
            self.assertIs(heap.is_whole(), False)
        self.assertEqual((heap.places(), heap.text()), ((1, 2, 3, 4), "bcde"))
        heap.add(0, "ab")
        self.assertIs(heap.is_whole(), True)
        self.assertEqual((heap.places(), heap.text()), ((0, 1, 2, 3, 4), "abcde"))

    def test_as_many_signs_but_not_all(self):
        heap = Heap(2)
        heap.add(1, "b")
        heap.add(1, "b")
        self.assertIs(heap.is_whole(), False)
        self.assertEqual(heap.text(), "b")

    def test_places_that_were_told_stay(self):
        heap = Heap(4)
        heap.add(2, "c")
        told = heap.places()
        heap.add(0, "a")
        self.assertEqual(told, (2,))
        self.assertIs(type(told), tuple)

    def test_a_copy_goes_on_by_itself(self):
        heap = Heap(4)
        heap.add(0, "ab")
        other = heap.copy()
        self.assertIsInstance(other, Heap)
        self.assertEqual((other.places(), other.text(), other.is_whole()), ((0, 1), "ab", False))
        other.add(2, "cd")
        self.assertEqual((other.text(), other.is_whole()), ("abcd", True))
        self.assertEqual((heap.places(), heap.text(), heap.is_whole()), ((0, 1), "ab", False))
        heap.add(3, "d")
        self.assertEqual((heap.text(), other.text()), ("abd", "abcd"))

    def test_methods_are_the_classes_own(self):
        for name in ("add", "places", "is_whole", "text", "copy"):
            self.assertIn(name, vars(Heap))
