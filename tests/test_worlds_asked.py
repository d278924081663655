"""What may be asked of a world, twins, and which worlds are equal."""

import random
import unittest

from tests.samples import ANYTHING, GROUNDS
from tests.test_ground import depths
from tests.world_cases import LINE, PAIR, WorldCase, told_of, world_with
from tests.world_deeds import done, drawn_deed, furnished, grounds
from wrapnets.errors import NetError
from wrapnets.fars import far_paper
from wrapnets.worlds import World

DEED_WORDS = "put_room close_room enter leave move send put_gate close_gate fall rise step batch".split()
ASKED = """log beat ground frames letters heaps rooms hands aliases numbers edges made table notes gates view ear twin
batches __eq__ __len__ __str__""".split()


def drawn_world(source, ground, many):
    world = World(*ground)
    deeds = furnished(source, world)
    while many > 0:
        many -= 1
        word, things = deeds.pop(0) if deeds else drawn_deed(source, world, 0.1)
        try:
            done(world, word, things)
        except NetError:
            pass
    return world


class FormTest(WorldCase):
    def test_methods_are_the_classes_own(self):
        for name in DEED_WORDS + ASKED:
            self.assertIn(name, vars(World))

    def test_at_first(self):
        for houses, roads in GROUNDS:
            world = World(houses, roads)
            up = (True,) * len(roads)
            ground = (houses, roads, up, far_paper(houses, roads, up))
            self.assertEqual(world.view(), (0, (0, 0, 0, 0), ground, (), (), (), (), (), ()))
            self.assertEqual((world.log(), world.batches(), len(world)), ((), (), 0))
            self.assertEqual(str(world), "beat 0, 0 rooms, 0 frames")

    def test_all_rows_are_tuples_down_to_the_innermost(self):
        source = random.Random(1)
        for ground in grounds(source, 5):
            world = drawn_world(source, ground, 120)
            told = [world.view(), world.log(), world.batches(), world.made()]
            told += [world.ear(room[0], hand[0]) for room in world.rooms() for hand in world.hands(room[0])]
            for thing in depths(tuple(told)):
                self.assertIs(type(thing), tuple)

    def test_the_view_is_made_of_what_else_is_told(self):
        source = random.Random(2)
        for ground in grounds(source, 5):
            world = drawn_world(source, ground, 120)
            rooms = []
            for room in [row[0] for row in world.rooms()]:
                edges = [(place, world.table(room, place), world.notes(room, place)) for place in world.edges(room)]
                rooms.append((room, world.numbers(room), tuple(edges)))
            self.assertEqual(world.view(), (
                world.beat(), world.made(), world.ground(), world.frames(), world.letters(), world.heaps(),
                world.rooms(), world.gates(), tuple(rooms),
            ))

    def test_hands_and_aliases_are_among_the_numbers(self):
        source = random.Random(3)
        for ground in grounds(source, 5):
            world = drawn_world(source, ground, 150)
            for room in [row[0] for row in world.rooms()]:
                for sort, rows in (("hand", world.hands(room)), ("alias", world.aliases(room))):
                    there = [row for row in world.numbers(room) if row[1] == sort and row[3] is not None]
                    self.assertEqual(rows, tuple((row[0], row[3], row[2]) for row in there))

    def test_str_and_len(self):
        world = World(*LINE)
        world.put_room("once", 0)
        world.put_room("once", 1)
        world.enter(0, 1, 2)
        world.enter(1, 1, 2)
        self.assertEqual((str(world), len(world)), ("beat 0, 2 rooms, 2 frames", 4))
        world.step()
        self.assertEqual((str(world), len(world)), ("beat 1, 2 rooms, 1 frames", 4))
        world.close_room(0)
        self.assertEqual((str(world), len(world)), ("beat 1, 1 rooms, 1 frames", 5))

    def test_what_was_told_is_no_part_of_the_world(self):
        world = world_with(PAIR, ("once", 0, {3: 0, 4: 1}))
        told = told_of(world), world.log(), world.hands(0)
        other = world.twin()
        world.send(0, 3, 4, "x")
        world.step()
        self.assertEqual(told, (told_of(other), other.log(), other.hands(0)))


class RefusedTest(WorldCase):
    def setUp(self):
        self.world = world_with(LINE, ("once", 1, {0: 0, 5: 2}))
        self.world.put_gate(0, 0, self.world.put_room("row", 0), ((1, 7),), (), ())
        self.world.close_room(self.world.put_room("loose", 0))

    def test_no_room(self):
        world = self.world
        for room in ANYTHING + [2, 3, "0", (0,), 10 ** 9]:
            for call in (world.hands, world.aliases, world.numbers, world.edges):
                self.refused(world, "NoRoom", (room,), call, room)
            for call in (world.table, world.notes, world.ear):
                self.refused(world, "NoRoom", (room,), call, room, 0)
                self.refused(world, "NoRoom", (room,), call, room, [])

    def test_no_edge(self):
        for place in ANYTHING + [1, 2, 9]:
            self.refused(self.world, "NoPlace", (place,), self.world.table, 1, place)
            self.refused(self.world, "NoPlace", (place,), self.world.notes, 1, place)

    def test_no_hand(self):
        self.world.enter(0, 4, 0)
        self.world.leave(0, 4)
        # 7 is an alias, 4 left, 6 never was there
        for hand in ANYTHING + [7, 4, 6, 99]:
            self.refused(self.world, "NoHand", (hand,), self.world.ear, 0, hand)


class EarTest(WorldCase):
    def test_in_order_and_without_signs(self):
        world = world_with(PAIR, ("loose", 0, {3: 0, 4: 0}))
        world.send(0, 3, 4, " a")
        world.send(0, 4, 4, ".b")
        world.send(0, 3, None, "")
        world.send(0, 4, 3, "!c")
        self.assertEqual(world.ear(0, 4), ((3, 1, " a"), (4, 1, ".b"), (3, 2, "")))
        self.assertEqual(world.ear(0, 3), ((4, 2, "!c"),))


class EqualTest(WorldCase):
    def test_of_the_same_deeds(self):
        for number in range(5):
            worlds = [drawn_world(random.Random(number), PAIR, 100) for twice in range(2)]
            self.assertTrue(worlds[0] == worlds[1])
            self.assertFalse(worlds[0] != worlds[1])
            self.assertEqual(told_of(worlds[0]), told_of(worlds[1]))

    def test_to_nothing_else(self):
        world = World(*PAIR)
        for thing in ANYTHING + [0, world.view(), "beat 0, 0 rooms, 0 frames", PAIR]:
            self.assertFalse(world == thing)
            self.assertTrue(world != thing)

    def test_unequal_ones(self):
        base = world_with(PAIR, ("once", 0, {3: 0, 4: 1}))
        deeds = [
            ("step", ()), ("send", (0, 3, 3, "x")), ("send", (0, 3, 4, "x")), ("put_room", ("row", 0)),
            ("put_room", ("row", 1)), ("put_room", ("row", 3, 0)), ("enter", (0, 5, 0)), ("enter", (0, 5, 1)),
            ("leave", (0, 4)), ("move", (0, 4, 0)), ("fall", (0, 1)), ("close_room", (0,)),
        ]
        worlds = [base]
        for word, things in deeds:
            worlds.append(base.twin())
            done(worlds[-1], word, things)
        for at, world in enumerate(worlds):
            for place, other in enumerate(worlds):
                self.assertIs(world == other, at == place)

    def test_by_their_views_alone(self):
        # other deeds, another log, but all stands alike
        one, other = world_with(PAIR, ("loose", 0, {3: 0})), world_with(PAIR, ("loose", 0, {3: 0}))
        one.fall(0, 1)
        one.rise(0, 1)
        one.send(0, 3, 3, "x")
        other.send(0, 3, 3, "y")
        self.assertTrue(one == other)
        self.assertNotEqual((len(one), one.log(), one.ear(0, 3)), (len(other), other.log(), other.ear(0, 3)))

    def test_equal_ones_go_on_alike(self):
        source = random.Random(7)
        for ground in grounds(source, 5):
            world = drawn_world(source, ground, 60)
            other = world.twin()
            # a batch that breaks is seen in batches alone
            self.assertRaises(NetError, other.batch, (("step",), ("fall", None, None)))
            for many in range(60):
                word, things = drawn_deed(source, world, 0.1)
                told = []
                for each in (world, other):
                    try:
                        told.append(done(each, word, things))
                    except NetError as error:
                        told.append((type(error), vars(error)))
                self.assertEqual(told[0], told[1])
                self.assertTrue(world == other)


class TwinTest(WorldCase):
    def test_alike_in_all(self):
        source = random.Random(4)
        for ground in grounds(source, 8):
            world = drawn_world(source, ground, 120)
            world.batch((("step",),))
            other = world.twin()
            self.assertIsInstance(other, World)
            self.assertIsNot(other, world)
            self.assertTrue(other == world)
            self.assertEqual(told_of(other), told_of(world))

    def test_each_goes_on_by_itself(self):
        source = random.Random(5)
        for ground in grounds(source, 8):
            world = drawn_world(source, ground, 100)
            other, third = world.twin(), world.twin()
            ahead = told_of(world)
            for many in range(60):
                word, things = drawn_deed(source, other, 0.2)
                told = []
                for each in (other, third):
                    try:
                        told.append(done(each, word, things))
                    except NetError as error:
                        told.append((type(error), vars(error)))
                self.assertEqual(told[0], told[1])
            other.batch((("step",),))
            third.batch((("step",),))
            self.assertEqual(told_of(other), told_of(third))
            self.assertEqual(told_of(world), ahead)

    def test_what_the_first_does_its_twin_does_not(self):
        world = world_with(LINE, ("once", 0, {3: 0, 4: 2}))
        world.put_gate(1, 0, world.put_room("row", 0), ((1, 7),), ((3, 8),), ())
        world.send(0, 3, 4, "x")
        other = world.twin()
        ahead = told_of(other)
        for word, things in (
            ("move", (0, 3, 2)), ("step", ()), ("fall", (0, 1)), ("close_gate", (0,)), ("leave", (0, 4)),
            ("send", (0, 3, 3, "y")), ("close_room", (1,)), ("put_room", ("loose", 2)), ("step", ()),
        ):
            done(world, word, things)
            self.assertEqual(told_of(other), ahead)


if __name__ == "__main__":
    unittest.main()
