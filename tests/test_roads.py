"""Grounds, and roads that fall and rise."""

import copy
import unittest
from itertools import combinations

from tests.samples import ANYTHING, FULLEST, GROUNDS, LINE, SQUARE, altered, small_grounds
from wrapnets.bounds import DELAY, HOUSES, NARROW, ROADS, WIDE
from wrapnets.errors import BadGround, NetError, NoRoad, Same
from wrapnets.roads import Roads, is_ground

PAIRS = list(combinations(range(HOUSES), 2))
GOOD = (0, 1, 1, 16)

# Each with the at that BadGround tells of it.
WRONG = [
    (0, (), None), (HOUSES + 1, (), None), (-1, (), None), (True, (), None), (False, (), None), ("2", (), None),
    (None, (), None), ((2,), (), None), ([2], (), None), ({}, (), None), (10 ** 29, (), None),
    (2, [], None), (2, [GOOD], None), (2, None, None), (2, {}, None), (2, "", None), (2, 0, None), (2, True, None),
    (8, tuple((a, b, 1, 16) for a, b in PAIRS[:ROADS + 1]), None),
    (8, tuple((a, b, 1, 16) for a, b in PAIRS[:ROADS]) + (7,), None), (1, (None,) * (ROADS + 1), None),
    # houses wrong, and a row too: the first refusal is told
    (0, (7,), None), (True, ((0, 1, 0, 16),), None),
    (2, ([0, 1, 1, 16],), 0), (2, (GOOD + (1,),), 0), (2, (GOOD[:3],), 0), (2, ((),), 0), (2, ((0, 1, (1, 16)),), 0),
    (2, GOOD, 0), (1, (GOOD,), 0),
    (3, ((0, 2, 1, 16), GOOD), 1), (3, ((1, 2, 1, 16), (0, 2, 1, 16)), 1), (2, (GOOD, GOOD), 1),
    (2, (GOOD, (0, 1, 2, 16)), 1), (2, (GOOD, (0, 1, 1, 17)), 1), (2, ((0, 1, 2, 16), GOOD), 1),
    (3, (GOOD, (0, 2, 1, 16), (0, 1, 2, 16)), 2),
    (2, ((1, 0, 1, 16),), 0), (3, (GOOD, (2, 0, 1, 16)), 1), (3, (GOOD, (2, 1, 1, 16)), 1),
    (2, ((0, 0, 1, 16),), 0), (3, (GOOD, (1, 1, 1, 16)), 1),
    (2, ((0, 2, 1, 16),), 0), (3, (GOOD, (0, 2, 1, 16), (0, 3, 1, 16)), 2), (2, ((-1, 1, 1, 16),), 0),
    (2, ((0, 10 ** 29, 1, 16),), 0),
    (2, ((0, 1, 0, 16),), 0), (2, ((0, 1, DELAY + 1, 16),), 0), (2, ((0, 1, -1, 16),), 0),
    (2, ((0, 1, 1, NARROW - 1),), 0), (2, ((0, 1, 1, WIDE + 1),), 0), (2, ((0, 1, 1, -16),), 0),
    (2, ((False, 1, 1, 16),), 0), (2, ((0, True, 1, 16),), 0), (2, ((0, 1, True, 16),), 0),
    (2, ((0, 1, 1, True),), 0), (2, (("0", 1, 1, 16),), 0), (2, ((0, "1", 1, 16),), 0),
    (2, ((0, 1, None, 16),), 0), (2, ((0, 1, 1, [16]),), 0), (2, ((0, (1,), 1, 16),), 0), (2, (({}, 1, 1, 16),), 0),
    # several rows are wrong: the first one is told
    (3, (GOOD, (0, 2, 0, 16), (1, 2, 3, 16)), 1), (3, ("ab", GOOD, GOOD), 0),
]


def at_of(houses, roads):
    try:
        Roads(houses, roads)
    except BadGround as error:
        return error.at
    return "none"


class GroundTest(unittest.TestCase):
    def right(self, houses, roads):
        self.assertIs(is_ground(houses, roads), True)
        self.assertEqual(Roads(houses, roads).up(), (True,) * len(roads))

    def test_right_grounds(self):
        for houses, roads in GROUNDS + list(small_grounds()):
            self.right(houses, roads)
        for houses in range(1, HOUSES + 1):
            self.right(houses, ())

    def test_right_at_the_edges(self):
        for many in range(ROADS + 1):
            self.right(HOUSES, tuple((a, b, 1, 16) for a, b in PAIRS[-ROADS:][:many]))
        for delay in range(1, DELAY + 1):
            self.right(2, ((0, 1, delay, 16),))
        for size in range(NARROW, WIDE + 1):
            self.right(2, ((0, 1, 1, size),))
        self.right(HOUSES, ((0, HOUSES - 1, DELAY, WIDE),))
        # pairs rise, whatever their delays and sizes do
        self.right(3, ((0, 1, 2, 80), (0, 2, 1, 16)))

    def test_wrong_grounds(self):
        for houses, roads, at in WRONG:
            with self.subTest((houses, roads)):
                ahead = copy.deepcopy((houses, roads))
                self.assertIs(is_ground(houses, roads), False)
                with self.assertRaises(BadGround) as caught:
                    Roads(houses, roads)
                self.assertEqual(caught.exception.at, at)
                self.assertIs(type(caught.exception.at), type(at))
                self.assertEqual((houses, roads), ahead)

    def test_anything_as_houses_and_as_roads(self):
        for thing in ANYTHING:
            with self.subTest(thing):
                self.assertIs(is_ground(thing, ()), False)
                self.assertEqual(at_of(thing, ()), None)
                if thing != ():
                    self.assertIs(is_ground(3, thing), False)
                    due = 0 if isinstance(thing, tuple) and len(thing) <= ROADS else None
                    self.assertEqual(at_of(3, thing), due)

    def test_anything_as_a_row_and_within_a_row(self):
        houses, roads = SQUARE
        for thing in ANYTHING:
            for at in range(len(roads)):
                with self.subTest((at, thing)):
                    self.assertEqual(at_of(houses, altered(roads, at, thing)), at)
                    for part in range(4):
                        row = altered(roads[at], part, thing)
                        self.assertIs(is_ground(houses, altered(roads, at, row)), False)
                        self.assertEqual(at_of(houses, altered(roads, at, row)), at)


class FallTest(unittest.TestCase):
    def test_a_road_falls_and_rises_either_way_round(self):
        houses, roads = SQUARE
        for at, (a, b, delay, size) in enumerate(roads):
            for one, other in ((a, b), (b, a)):
                made = Roads(houses, roads)
                self.assertIsNone(made.fall(one, other))
                self.assertEqual(made.up(), altered((True,) * 4, at, False))
                self.assertIsNone(made.rise(other, one))
                self.assertEqual(made.up(), (True,) * 4)

    def test_up_is_in_the_order_of_the_roads(self):
        made = Roads(*SQUARE)
        made.fall(3, 1)
        made.fall(0, 1)
        self.assertEqual(made.up(), (False, True, False, True))
        made.rise(1, 0)
        self.assertEqual(made.up(), (True, True, False, True))
        self.assertIs(type(made.up()), tuple)
        self.assertEqual({type(state) for state in made.up()}, {bool})

    def test_up_that_was_told_stays(self):
        made = Roads(*LINE)
        told = made.up()
        made.fall(0, 1)
        self.assertEqual(told, (True, True))

    def test_what_is_so_already_is_the_same(self):
        made = Roads(*LINE)
        for a, b in ((0, 1), (1, 0)):
            self.assertRaises(Same, made.rise, a, b)
        made.fall(0, 1)
        for a, b in ((0, 1), (1, 0)):
            self.assertRaises(Same, made.fall, a, b)
        self.assertEqual(made.up(), (False, True))
        made.rise(0, 1)
        self.assertRaises(Same, made.rise, 0, 1)
        self.assertEqual(made.up(), (True, True))

    def refused(self, made, a, b):
        ahead = made.up(), [made.neighbours(house) for house in range(4)], copy.deepcopy((a, b))
        for deed in (made.fall, made.rise):
            with self.assertRaises(NoRoad) as caught:
                deed(a, b)
            self.assertIs(caught.exception.a, a)
            self.assertIs(caught.exception.b, b)
        self.assertEqual((made.up(), [made.neighbours(house) for house in range(4)], (a, b)), ahead)

    def test_no_such_road(self):
        made = Roads(*SQUARE)
        made.fall(2, 3)
        for a, b in ((0, 3), (3, 0), (1, 2), (2, 1), (0, 4), (4, 0), (8, 9), (-1, 0), (0, -1), (-4, 1)):
            self.refused(made, a, b)
        for house in range(4):
            self.refused(made, house, house)
        for a, b in ((False, True), (0, True), (False, 1), (True, 0), (1, False), ("0", "1"), (0, "1"), ([0], [1])):
            self.refused(made, a, b)
        for thing in ANYTHING:
            for house in range(4):
                self.refused(made, thing, house)
                self.refused(made, house, thing)
            self.refused(made, thing, thing)

    def test_refusals_are_net_errors(self):
        made = Roads(*LINE)
        self.assertRaises(NetError, made.fall, 0, 2)
        self.assertRaises(NetError, made.rise, 0, 1)
        self.assertRaises(NetError, Roads, 0, ())


class NeighboursTest(unittest.TestCase):
    def test_rising_with_delay_and_size(self):
        made = Roads(4, ((0, 2, 2, 40), (0, 3, 1, 16), (1, 2, 1, 80), (2, 3, 2, 20)))
        self.assertEqual(made.neighbours(2), ((0, 2, 40), (1, 1, 80), (3, 2, 20)))
        self.assertEqual(made.neighbours(0), ((2, 2, 40), (3, 1, 16)))
        self.assertEqual(made.neighbours(1), ((2, 1, 80),))
        self.assertEqual(Roads(2, ()).neighbours(1), ())

    def test_over_roads_that_are_up_alone(self):
        made = Roads(*SQUARE)
        told = made.neighbours(0)
        made.fall(0, 1)
        self.assertEqual(made.neighbours(0), ((2, 1, 80),))
        self.assertEqual(made.neighbours(1), ((3, 1, 20),))
        made.fall(0, 2)
        self.assertEqual(made.neighbours(0), ())
        made.rise(0, 1)
        self.assertEqual(made.neighbours(0), ((1, 1, 16),))
        self.assertEqual(told, ((1, 1, 16), (2, 1, 80)))

    def test_of_all_houses(self):
        for houses, roads in GROUNDS:
            made = Roads(houses, roads)
            for house in range(houses):
                due = []
                for other in range(houses):
                    due += [(other, row[2], row[3]) for row in roads if set(row[:2]) == {house, other}]
                self.assertEqual(made.neighbours(house), tuple(due))

    def test_what_is_no_house_has_none(self):
        made = Roads(*FULLEST)
        self.assertEqual(made.neighbours(8), ())
        self.assertEqual(made.neighbours(-1), ())


class InterfaceTest(unittest.TestCase):
    def test_methods_are_the_classes_own(self):
        for name in ("up", "fall", "rise", "neighbours"):
            self.assertIn(name, vars(Roads))

    def test_two_of_one_ground_are_apart(self):
        one, other = Roads(*LINE), Roads(*LINE)
        one.fall(0, 1)
        self.assertEqual(other.up(), (True, True))
