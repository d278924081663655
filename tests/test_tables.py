"""Tables and notes of a place."""

import random
import unittest

from wrapnets.bounds import AGE, NOTES
from wrapnets.tables import Notes, Table


class TableTest(unittest.TestCase):
    def test_learn_where_there_is_no_row(self):
        table = Table()
        self.assertEqual(table.rows(), ())
        self.assertIsNone(table.look(3, 0))
        self.assertIsNone(table.learn(3, 5, 0, 2))
        self.assertEqual(table.rows(), ((3, 5, 0, 2),))
        self.assertEqual(table.look(3, 2), 5)

    def test_learn_with_a_lesser_a_like_and_a_greater_number(self):
        table = Table()
        table.learn(3, 5, 4, 2)
        table.learn(3, 6, 3, 9)
        self.assertEqual(table.rows(), ((3, 5, 4, 2),))
        table.learn(3, 7, 4, 1)
        self.assertEqual(table.rows(), ((3, 7, 4, 1),))
        table.learn(3, 0, 5, 3)
        self.assertEqual(table.rows(), ((3, 0, 5, 3),))
        # the number that was taken counts from then on
        table.learn(3, 1, 4, 4)
        self.assertEqual(table.rows(), ((3, 0, 5, 3),))

    def test_of_each_hand_by_itself(self):
        table = Table()
        table.learn(3, 5, 4, 2)
        table.learn(2, 6, 0, 9)
        table.learn(10, 6, 1, 9)
        self.assertEqual(table.rows(), ((2, 6, 0, 9), (3, 5, 4, 2), (10, 6, 1, 9)))

    def test_look_up_to_its_age(self):
        table = Table()
        table.learn(3, 5, 4, 20)
        for beat in range(0, 20 + AGE + 1):
            self.assertEqual(table.look(3, beat), 5)
        for beat in (20 + AGE + 1, 20 + AGE + 2, 3000):
            self.assertIsNone(table.look(3, beat))
        self.assertIsNone(table.look(4, 20))
        # an old row is there all the same
        self.assertEqual(table.rows(), ((3, 5, 4, 20),))
        table.learn(3, 6, 3, 31)
        self.assertIsNone(table.look(3, 31))

    def test_place_nought_is_a_place(self):
        table = Table()
        table.learn(0, 0, 0, 0)
        self.assertEqual(table.look(0, AGE), 0)
        self.assertIsNone(table.look(0, AGE + 1))

    def test_drop(self):
        table = Table()
        self.assertIsNone(table.drop(3))
        table.learn(3, 5, 4, 2)
        table.learn(4, 5, 4, 2)
        self.assertIsNone(table.drop(2))
        self.assertEqual(table.rows(), ((3, 5, 4, 2), (4, 5, 4, 2)))
        self.assertIsNone(table.drop(3))
        self.assertEqual(table.rows(), ((4, 5, 4, 2),))
        self.assertIsNone(table.look(3, 2))
        table.drop(3)
        # a lesser number than the row had that was dropped
        table.learn(3, 6, 0, 3)
        self.assertEqual(table.rows(), ((3, 6, 0, 3), (4, 5, 4, 2)))

    def test_rows_by_hands(self):
        source = random.Random(5)
        for many in range(30):
            hands = source.sample(range(16), 9)
            table = Table()
            for hand in hands:
                table.learn(hand, hand % 5, 15 - hand, many)
            self.assertEqual(table.rows(), tuple((hand, hand % 5, 15 - hand, many) for hand in sorted(hands)))

    def test_rows_that_were_told_stay(self):
        table = Table()
        table.learn(3, 5, 4, 2)
        told = table.rows()
        table.learn(3, 6, 4, 2)
        table.drop(3)
        self.assertEqual(told, ((3, 5, 4, 2),))
        self.assertEqual((type(told), type(told[0])), (tuple, tuple))

    def test_a_copy_goes_on_by_itself(self):
        table = Table()
        table.learn(3, 5, 4, 2)
        other = table.copy()
        self.assertIsInstance(other, Table)
        self.assertEqual(other.rows(), table.rows())
        other.learn(3, 6, 4, 3)
        other.learn(1, 1, 1, 1)
        self.assertEqual(table.rows(), ((3, 5, 4, 2),))
        table.drop(3)
        self.assertEqual(table.rows(), ())
        self.assertEqual(other.rows(), ((1, 1, 1, 1), (3, 6, 4, 3)))

    def test_methods_are_the_classes_own(self):
        for name in ("learn", "look", "drop", "rows", "copy"):
            self.assertIn(name, vars(Table))


class NotesTest(unittest.TestCase):
    def test_put_and_get(self):
        notes = Notes()
        self.assertEqual(notes.rows(), ())
        self.assertIsNone(notes.get(3))
        self.assertIsNone(notes.put(3, 5, 2))
        self.assertEqual(notes.get(3), (5, 2))
        notes.put(4, None, 2)
        self.assertEqual(notes.get(4), (None, 2))
        self.assertIsNone(notes.get(5))
        self.assertIs(type(notes.get(3)), tuple)

    def test_the_last_note_stands(self):
        notes = Notes()
        notes.put(3, 5, 9)
        notes.put(3, None, 9)
        self.assertEqual(notes.rows(), ((3, None, 9),))
        notes.put(3, 0, 8)
        self.assertEqual(notes.rows(), ((3, 0, 8),))

    def test_fresh_up_to_notes_beats(self):
        notes = Notes()
        notes.put(3, 5, 20)
        notes.put(0, 0, 20)
        for hand in (3, 0):
            for beat in range(0, 20 + NOTES + 1):
                self.assertIs(notes.is_fresh(hand, beat), True)
            for beat in (20 + NOTES + 1, 20 + NOTES + 2, 3000):
                self.assertIs(notes.is_fresh(hand, beat), False)
        # an old note is there all the same
        self.assertEqual(notes.get(3), (5, 20))

    def test_a_note_without_a_place_is_never_fresh(self):
        notes = Notes()
        notes.put(3, None, 20)
        for beat in (0, 20, 21, 25, 26):
            self.assertIs(notes.is_fresh(3, beat), False)

    def test_no_note_is_not_fresh(self):
        notes = Notes()
        self.assertIs(notes.is_fresh(3, 0), False)
        notes.put(3, 5, 0)
        self.assertIs(notes.is_fresh(4, 0), False)

    def test_drop(self):
        notes = Notes()
        self.assertIsNone(notes.drop(3))
        notes.put(3, 5, 2)
        notes.put(4, None, 2)
        self.assertIsNone(notes.drop(2))
        self.assertEqual(notes.rows(), ((3, 5, 2), (4, None, 2)))
        self.assertIsNone(notes.drop(3))
        self.assertIsNone(notes.get(3))
        self.assertIs(notes.is_fresh(3, 2), False)
        notes.drop(3)
        notes.drop(4)
        self.assertEqual(notes.rows(), ())

    def test_rows_by_hands(self):
        notes = Notes()
        for hand in (9, 2, 15, 0, 10):
            notes.put(hand, None if hand == 2 else 20 - hand, hand)
        self.assertEqual(notes.rows(), ((0, 20, 0), (2, None, 2), (9, 11, 9), (10, 10, 10), (15, 5, 15)))

    def test_rows_that_were_told_stay(self):
        notes = Notes()
        notes.put(3, 5, 2)
        told = notes.rows(), notes.get(3)
        notes.put(3, 6, 3)
        notes.drop(3)
        self.assertEqual(told, (((3, 5, 2),), (5, 2)))

    def test_a_copy_goes_on_by_itself(self):
        notes = Notes()
        notes.put(3, 5, 2)
        other = notes.copy()
        self.assertIsInstance(other, Notes)
        self.assertEqual(other.rows(), notes.rows())
        other.put(3, None, 4)
        other.put(1, 1, 1)
        self.assertEqual(notes.rows(), ((3, 5, 2),))
        notes.drop(3)
        self.assertEqual(notes.rows(), ())
        self.assertEqual(other.rows(), ((1, 1, 1), (3, None, 4)))

    def test_methods_are_the_classes_own(self):
        for name in ("put", "get", "drop", "is_fresh", "rows", "copy"):
            self.assertIn(name, vars(Notes))
