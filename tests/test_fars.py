"""Fars: what houses know of their ways, turn by turn, and where that is settled."""

import copy
import random
import unittest
from itertools import product

from tests.reckoning import next_by_hand, reckoned, turned_by_hand
from tests.samples import ANYTHING, FULLEST, GROUNDS, KITE, LINE, LONG_LINE, SQUARE, TWO_PARTS
from tests.samples import altered, random_ground, small_grounds
from wrapnets.bounds import FAR
from wrapnets.fars import Fars, far_paper, is_settled
from wrapnets.roads import Roads


def all_states(roads):
    return product((True, False), repeat=len(roads))


class FarPaperTest(unittest.TestCase):
    def check(self, houses, roads, up):
        paper = far_paper(houses, roads, up)
        self.assertEqual(paper, reckoned(houses, roads, up))
        self.assertIs(is_settled(houses, roads, up, paper), True)
        self.assertIs(type(paper), tuple)
        for row in paper:
            self.assertIs(type(row), tuple)
            self.assertEqual({type(far) for far in row}, {int})

    def test_least_sums_of_delays(self):
        for houses, roads in GROUNDS:
            self.check(houses, roads, (True,) * len(roads))
            self.check(houses, roads, (False,) * len(roads))
        for houses, roads in small_grounds():
            for up in all_states(roads):
                self.check(houses, roads, up)

    def test_of_many_grounds(self):
        source = random.Random(6)
        for many in range(150):
            houses, roads = random_ground(source)
            self.check(houses, roads, tuple(source.random() < 0.8 for row in roads))

    def test_by_numbers(self):
        self.assertEqual(far_paper(1, (), ()), ((0,),))
        self.assertEqual(far_paper(2, (), ()), ((0, 24), (24, 0)))
        self.assertEqual(far_paper(*LINE, (True, True)), ((0, 1, 2), (1, 0, 1), (2, 1, 0)))
        self.assertEqual(far_paper(*LINE, (True, False)), ((0, 1, 24), (1, 0, 24), (24, 24, 0)))
        self.assertEqual(far_paper(*LONG_LINE, (True,) * 7)[0], (0, 2, 4, 6, 8, 10, 12, 14))


class SettledTest(unittest.TestCase):
    def test_each_other_number_is_wrong(self):
        for houses, roads in (LINE, KITE, TWO_PARTS):
            up = (True,) * len(roads)
            paper = far_paper(houses, roads, up)
            for house, other in product(range(houses), repeat=2):
                for number in list(range(-2, FAR + 3)) + [10 ** 29, -(10 ** 29)]:
                    changed = altered(paper, house, altered(paper[house], other, number))
                    self.assertIs(is_settled(houses, roads, up, changed), number == paper[house][other])

    def test_just_one_table_of_all_is_settled(self):
        # 23 and FAR too: fars of two houses that each count on the other one
        numbers = (0, 1, 2, 3, 23, FAR)
        for roads, up in ((((0, 1, 1, 16), (1, 2, 2, 16)), (True, True)), (((0, 1, 1, 16), (1, 2, 1, 16)), (True, False))):
            found = []
            for a, b, c, d, e, f in product(numbers, repeat=6):
                fars = ((0, a, b), (c, 0, d), (e, f, 0))
                if is_settled(3, roads, up, fars):
                    found.append(fars)
            self.assertEqual(found, [reckoned(3, roads, up)])

    def test_all_tables_of_two_houses(self):
        for roads, up, far in (((), (), FAR), (((0, 1, 2, 16),), (True,), 2), (((0, 1, 2, 16),), (False,), FAR)):
            for a, b, c, d in product((0, 1), range(FAR + 1), range(FAR + 1), (0, 1)):
                due = (a, b, c, d) == (0, far, far, 0)
                self.assertIs(is_settled(2, roads, up, ((a, b), (c, d))), due)

    def test_truths_are_no_numbers(self):
        for house, other in product(range(3), repeat=2):
            paper = far_paper(*LINE, (True, True))
            for truth in (True, False):
                changed = altered(paper, house, altered(paper[house], other, truth))
                self.assertIs(is_settled(*LINE, (True, True), changed), False)

    def test_lists_are_no_tuples(self):
        paper = far_paper(*LINE, (True, True))
        self.assertIs(is_settled(*LINE, (True, True), list(paper)), False)
        self.assertIs(is_settled(*LINE, (True, True), [list(row) for row in paper]), False)
        for at in range(3):
            self.assertIs(is_settled(*LINE, (True, True), altered(paper, at, list(paper[at]))), False)

    def test_more_or_fewer_rows_or_numbers(self):
        up = (True, True)
        paper = far_paper(*LINE, up)
        for changed in ((), paper[:2], paper[1:], paper + (paper[0],), paper + ((),), (paper,), paper[0], ((), (), ())):
            self.assertIs(is_settled(*LINE, up, changed), False)
        for at in range(3):
            for row in ((), paper[at][:2], paper[at][1:], paper[at] + (0,), paper[at] + (FAR,), (paper[at],)):
                self.assertIs(is_settled(*LINE, up, altered(paper, at, row)), False)
        # right for three houses, of a ground of two or four
        self.assertIs(is_settled(2, ((0, 1, 1, 16),), (True,), paper), False)
        self.assertIs(is_settled(4, LINE[1], up, paper), False)

    def test_anything(self):
        up = (True, True)
        paper = far_paper(*LINE, up)
        for thing in ANYTHING + ["abc", {0: 0, 1: 1, 2: 2}, "012"]:
            ahead = copy.deepcopy(thing)
            self.assertIs(is_settled(*LINE, up, thing), False)
            for at in range(3):
                self.assertIs(is_settled(*LINE, up, altered(paper, at, thing)), False)
                for other in range(3):
                    changed = altered(paper, at, altered(paper[at], other, thing))
                    self.assertIs(is_settled(*LINE, up, changed), False)
            self.assertEqual(thing, ahead)

    def test_nothing_is_settled_on_what_is_no_ground(self):
        paper = far_paper(*LINE, (True, True))
        for thing in ANYTHING:
            self.assertIs(is_settled(thing, LINE[1], (True, True), paper), False)
            self.assertIs(is_settled(3, thing, (True, True), paper), False)
            self.assertIs(is_settled(*LINE, thing, paper), False)
        for up in ((1, 1), [True, True], (True,), (True, True, True), (True, None)):
            self.assertIs(is_settled(*LINE, up, paper), False)

    def test_of_other_states_it_is_another_table(self):
        houses, roads = SQUARE
        for one, other in product(all_states(roads), repeat=2):
            due = reckoned(houses, roads, one) == reckoned(houses, roads, other)
            self.assertIs(is_settled(houses, roads, one, far_paper(houses, roads, other)), due)


class FarsTest(unittest.TestCase):
    def check_all(self, roads, fars, houses):
        rows = fars.rows()
        for house, other in product(range(houses), repeat=2):
            self.assertEqual(fars.far(house, other), rows[house][other])
            if house != other:
                self.assertEqual(fars.next(house, other), next_by_hand(roads, rows, house, other))

    def test_settled_at_first(self):
        for houses, listed in GROUNDS:
            roads = Roads(houses, listed)
            fars = Fars(roads)
            self.assertEqual(fars.rows(), reckoned(houses, listed, roads.up()))
            self.check_all(roads, fars, houses)
            self.assertIsNone(fars.turn())
            self.assertEqual(fars.rows(), reckoned(houses, listed, roads.up()))

    def test_settled_at_first_over_the_roads_that_are_up(self):
        roads = Roads(*SQUARE)
        roads.fall(0, 1)
        fars = Fars(roads)
        self.assertEqual(fars.rows(), reckoned(*SQUARE, (False, True, True, True)))
        self.assertEqual(fars.far(0, 1), 3)

    def test_falls_and_rises_are_seen_by_turns(self):
        roads = Roads(*SQUARE)
        fars = Fars(roads)
        roads.fall(0, 1)
        self.assertEqual(fars.far(0, 1), 1)
        fars.turn()
        self.assertEqual(fars.rows(), ((0, 3, 1, 2), (3, 0, 2, 1), (1, 2, 0, 1), (2, 1, 1, 0)))
        roads.rise(0, 1)
        fars.turn()
        self.assertEqual(fars.rows(), ((0, 1, 1, 2), (1, 0, 2, 1), (1, 2, 0, 1), (2, 1, 1, 0)))

    def test_next_sees_a_fall_at_once(self):
        roads = Roads(*SQUARE)
        fars = Fars(roads)
        self.assertEqual(fars.next(0, 1), 1)
        roads.fall(0, 1)
        self.assertEqual(fars.next(0, 1), 2)
        roads.fall(0, 2)
        self.assertIsNone(fars.next(0, 1))
        roads.rise(0, 1)
        self.assertEqual(fars.next(0, 1), 1)

    def test_all_houses_turn_at_once(self):
        roads = Roads(4, ((0, 1, 1, 16), (1, 2, 1, 16), (2, 3, 1, 16)))
        roads.fall(0, 1)
        fars = Fars(roads)
        roads.rise(0, 1)
        # the news go one house further by each turn, whichever way the houses are numbered
        self.assertEqual([fars.far(house, 0) for house in range(4)], [0, 24, 24, 24])
        self.assertEqual([fars.far(0, house) for house in range(4)], [0, 24, 24, 24])
        fars.turn()
        self.assertEqual([fars.far(house, 0) for house in range(4)], [0, 1, 24, 24])
        self.assertEqual([fars.far(0, house) for house in range(4)], [0, 1, 2, 3])
        fars.turn()
        self.assertEqual([fars.far(house, 0) for house in range(4)], [0, 1, 2, 24])
        fars.turn()
        self.assertEqual([fars.far(house, 0) for house in range(4)], [0, 1, 2, 3])

    def test_a_house_without_roads_has_far_at_once(self):
        roads = Roads(2, ((0, 1, 1, 16),))
        fars = Fars(roads)
        roads.fall(1, 0)
        self.assertEqual(fars.rows(), ((0, 1), (1, 0)))
        fars.turn()
        self.assertEqual(fars.rows(), ((0, FAR), (FAR, 0)))

    def test_fars_count_up_to_far_at_most(self):
        roads = Roads(*LINE)
        fars = Fars(roads)
        roads.fall(1, 2)
        told = []
        while fars.far(0, 2) < FAR or fars.far(1, 2) < FAR:
            told.append((fars.far(0, 2), fars.far(1, 2), fars.next(0, 2), fars.next(1, 2)))
            fars.turn()
        due = [(2, 1), (2, 3)]
        while due[-1] != (22, 23):
            due += [(due[-1][1] + 1, due[-1][1]), (due[-1][1] + 1, due[-1][1] + 2)]
        self.assertEqual([row[:2] for row in told], due + [(24, 23)])
        # FAR - 1 is a way, FAR and FAR + 1 are none
        self.assertEqual(told[-2][2:], (None, 0))
        self.assertEqual(told[-1][2:], (None, None))
        self.assertTrue(all(row[2:] == (1, 0) for row in told[:-2]))
        self.assertEqual(fars.rows(), ((0, 1, 24), (1, 0, 24), (24, 24, 0)))
        fars.turn()
        self.assertEqual(fars.rows(), ((0, 1, 24), (1, 0, 24), (24, 24, 0)))

    def test_with_long_delays_too(self):
        roads = Roads(3, ((0, 1, 2, 16), (1, 2, 1, 16)))
        fars = Fars(roads)
        roads.fall(1, 2)
        highest = 0
        for many in range(40):
            self.check_all(roads, fars, 3)
            highest = max([highest] + [far for row in fars.rows() for far in row])
            fars.turn()
        self.assertEqual(highest, FAR)
        self.assertIs(is_settled(3, ((0, 1, 2, 16), (1, 2, 1, 16)), roads.up(), fars.rows()), True)

    def test_next_is_the_least_sum_and_of_like_ones_the_least_house(self):
        square, kite = Fars(Roads(*SQUARE)), Fars(Roads(*KITE))
        self.assertEqual([square.next(0, 3), square.next(3, 0), square.next(1, 2), square.next(2, 1)], [1, 1, 0, 0])
        self.assertEqual([kite.next(0, 3), kite.next(3, 0)], [1, 1])
        # the road itself is as long as the way by house 0
        around = Fars(Roads(3, ((0, 1, 1, 16), (0, 2, 1, 16), (1, 2, 2, 16))))
        self.assertEqual([around.next(1, 2), around.next(2, 1)], [0, 0])
        longer = Fars(Roads(4, ((0, 1, 2, 16), (0, 2, 1, 16), (1, 3, 2, 16), (2, 3, 2, 16))))
        self.assertEqual(longer.next(0, 3), 2)

    def test_next_is_none_where_there_is_no_way(self):
        fars = Fars(Roads(*TWO_PARTS))
        self.assertIsNone(fars.next(0, 2))
        self.assertIsNone(fars.next(3, 1))
        self.assertEqual(fars.next(0, 1), 1)
        self.assertIsNone(Fars(Roads(2, ())).next(0, 1))

    def test_beyond_the_houses(self):
        fars = Fars(Roads(*LINE))
        for house, other in ((0, 3), (3, 0), (-1, 0), (0, -1), (8, 9), (3, 3)):
            self.assertEqual(fars.far(house, other), FAR)
            self.assertIsNone(fars.next(house, other))
        self.assertIsNone(fars.next(1, 1))

    def test_rows_that_were_told_stay(self):
        roads = Roads(*LINE)
        fars = Fars(roads)
        told = fars.rows()
        roads.fall(0, 1)
        fars.turn()
        self.assertEqual(told, ((0, 1, 2), (1, 0, 1), (2, 1, 0)))
        self.assertNotEqual(fars.rows(), told)
        self.assertIs(type(told), tuple)
        self.assertEqual({type(row) for row in told}, {tuple})

    def test_a_turn_changes_no_road(self):
        roads = Roads(*SQUARE)
        roads.fall(0, 1)
        fars = Fars(roads)
        fars.turn()
        self.assertEqual(roads.up(), (False, True, True, True))

    def test_two_over_one_ground_both_see(self):
        roads = Roads(*LINE)
        one, other = Fars(roads), Fars(roads)
        roads.fall(0, 1)
        one.turn()
        self.assertEqual(other.far(0, 1), 1)
        other.turn()
        self.assertEqual(one.rows(), other.rows())

    def test_runs_of_falls_rises_and_turns(self):
        source = random.Random(31)
        for houses, listed in [FULLEST, LONG_LINE, SQUARE] + [random_ground(source) for many in range(25)]:
            roads = Roads(houses, listed)
            fars = Fars(roads)
            for many in range(25):
                for at in range(source.randint(0, 2) if listed else 0):
                    a, b = source.choice(listed)[:2]
                    (roads.fall if roads.up()[[row[:2] for row in listed].index((a, b))] else roads.rise)(a, b)
                due = turned_by_hand(roads, fars.rows())
                same = due == fars.rows()
                self.assertIs(is_settled(houses, listed, roads.up(), fars.rows()), same)
                self.assertEqual(same, fars.rows() == reckoned(houses, listed, roads.up()))
                fars.turn()
                self.assertEqual(fars.rows(), due)
                self.check_all(roads, fars, houses)
            for many in range(FAR + 8):
                fars.turn()
            self.assertEqual(fars.rows(), far_paper(houses, listed, roads.up()))

    def test_methods_are_the_classes_own(self):
        for name in ("far", "next", "turn", "rows"):
            self.assertIn(name, vars(Fars))
