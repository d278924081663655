"""What the deeds of a world are refused for, in which order, and that nothing is other behind it."""

import copy
import unittest

from tests.samples import ANYTHING, GROUNDS
from tests.test_roads import WRONG
from tests.world_cases import LINE, PAIR, WorldCase, told_of, world_with
from wrapnets.bounds import BEATS, DEEDS, GATES, HANDS, NUMBERS, ROOMS, TEXT, WEAVE
from wrapnets.errors import BadGround, NetError
from wrapnets.ground import Ground
from wrapnets.worlds import World

NO_NUMBERS = [thing for thing in ANYTHING] + [16, 17, -5, True, "3", (3,), [3]]
NO_TEXTS = [thing for thing in ANYTHING if not isinstance(thing, str)] + [
    "a" * (TEXT + 1), "a" * 200, "%", "ab%cd", "\n", "\t", "\x7f", "\x1f", "caf\u00e9", "a\x00",
]
HUNDREDS = 10 ** 29


class GroundRefusalTest(WorldCase):
    def test_wrong_grounds(self):
        for houses, roads, at in WRONG:
            with self.subTest((houses, roads)):
                ahead = copy.deepcopy((houses, roads))
                with self.assertRaises(BadGround) as caught:
                    World(houses, roads)
                self.assertEqual(caught.exception.at, at)
                self.assertEqual((houses, roads), ahead)

    def test_anything(self):
        for thing in ANYTHING:
            self.assertRaises(BadGround, World, thing, ())
            self.assertRaises(BadGround, World, thing, thing)
            if thing != ():
                self.assertRaises(BadGround, World, 3, thing)

    def test_right_ones_stand_as_a_ground_does(self):
        for houses, roads in GROUNDS:
            world = World(houses, roads)
            self.assertEqual(world.ground(), Ground(houses, roads).told())


class RoomRefusalTest(WorldCase):
    def setUp(self):
        self.world = world_with(LINE, ("once", 1, {0: 0, 5: 2}))
        self.world.put_gate(0, 0, self.world.put_room("row", 0), ((1, 7),), (), ())
        self.upper = self.world.put_room("loose", 5, over=0)

    def test_wrong_kinds(self):
        for kind in ANYTHING + ["Loose", "once ", "rows", ("once",), ["row"]]:
            self.refused(self.world, "BadRoom", ("kind",), self.world.put_room, kind, 0)
            self.refused(self.world, "BadRoom", ("kind",), self.world.put_room, kind, [], over=kind)

    def test_wrong_nets(self):
        # 2 lies over a room itself, 3 never was put
        for over in [thing for thing in ANYTHING if thing is not None] + [2, 3, "0", (0,)]:
            self.refused(self.world, "BadRoom", ("over",), self.world.put_room, "once", 0, over=over)
            self.refused(self.world, "BadRoom", ("over",), self.world.put_room, "once", None, over=over)

    def test_wrong_keepers(self):
        for keeper in ANYTHING + [3, 99]:
            self.refused(self.world, "BadRoom", ("keeper",), self.world.put_room, "once", keeper)
        # over a room its hands alone, no alias and no house
        for keeper in ANYTHING + [7, 1, 2]:
            self.refused(self.world, "BadRoom", ("keeper",), self.world.put_room, "once", keeper, over=0)

    def test_full(self):
        for many in range(3, ROOMS):
            self.assertEqual(self.world.put_room("loose", 0), many)
        self.refused(self.world, "Full", (), self.world.put_room, "loose", 0)
        self.refused(self.world, "Full", (), self.world.put_room, "loose", 5, over=0)
        self.refused(self.world, "BadRoom", ("kind",), self.world.put_room, "lose", 0)
        self.refused(self.world, "BadRoom", ("over",), self.world.put_room, "loose", 0, over=9)
        self.refused(self.world, "BadRoom", ("keeper",), self.world.put_room, "loose", 3)
        # closed ones count on
        self.world.close_room(4)
        self.refused(self.world, "Full", (), self.world.put_room, "loose", 0)

    def test_over_is_handed_in_by_its_name(self):
        self.assertRaises(TypeError, self.world.put_room, "once", 5, 0)

    def test_close_room(self):
        for room in ANYTHING + [3, 17, "0", (0,), [0]]:
            self.refused(self.world, "NoRoom", (room,), self.world.close_room, room)
        # room 0 is beneath one, and room 1 has a gate
        self.refused(self.world, "InUse", (), self.world.close_room, 0)
        self.refused(self.world, "InUse", (), self.world.close_room, 1)
        self.assertIsNone(self.world.close_room(self.upper))
        self.refused(self.world, "InUse", (), self.world.close_room, 0)
        self.refused(self.world, "NoRoom", (self.upper,), self.world.close_room, self.upper)
        self.world.close_gate(0)
        self.world.close_room(1)
        self.world.close_room(0)
        self.assertEqual(self.world.rooms(), ())


class HandRefusalTest(WorldCase):
    def setUp(self):
        self.world = world_with(LINE, ("once", 1, {0: 0, 5: 2}))
        self.world.put_gate(0, 0, self.world.put_room("row", 0), ((1, 7),), (), ())
        self.world.put_room("loose", 5, over=0)

    def test_no_room_comes_first(self):
        world = self.world
        for room in ANYTHING + [3, 10 ** 20, "0"]:
            self.refused(world, "NoRoom", (room,), world.enter, room, [], [])
            self.refused(world, "NoRoom", (room,), world.leave, room, [])
            self.refused(world, "NoRoom", (room,), world.move, room, [], {})
            self.refused(world, "NoRoom", (room,), world.send, room, [], [], [])

    def test_enter_with_wrong_numbers(self):
        for hand in NO_NUMBERS:
            self.refused(self.world, "NoNumber", (hand,), self.world.enter, 0, hand, 0)
            self.refused(self.world, "NoNumber", (hand,), self.world.enter, 0, hand, None)

    def test_enter_with_numbers_that_are_taken(self):
        for hand in (0, 5, 7):
            self.refused(self.world, "Taken", (hand,), self.world.enter, 0, hand, 1)
            self.refused(self.world, "Taken", (hand,), self.world.enter, 0, hand, "nowhere")

    def test_a_number_that_ever_was_an_alias_is_taken(self):
        self.world.close_gate(0)
        self.refused(self.world, "Taken", (7,), self.world.enter, 0, 7, 1)
        self.assertIsNone(self.world.enter(1, 7, 1))

    def test_enter_at_wrong_places(self):
        for place in ANYTHING + [3, 5]:
            self.refused(self.world, "NoPlace", (place,), self.world.enter, 0, 3, place)
        # the places of room 2 are the hands of room 0, 0 and 5
        for place in ANYTHING + [1, 2, 7]:
            self.refused(self.world, "NoPlace", (place,), self.world.enter, 2, 3, place)
        self.assertIsNone(self.world.enter(2, 3, 0))

    def test_full(self):
        # the alias 7 is aside
        for hand in range(1, HANDS - 1):
            self.world.enter(0, hand, 0)
        self.assertEqual(len(self.world.hands(0)), HANDS)
        self.refused(self.world, "Full", (), self.world.enter, 0, 8, 0)
        self.refused(self.world, "NoPlace", (9,), self.world.enter, 0, 8, 9)
        self.refused(self.world, "Taken", (7,), self.world.enter, 0, 7, 0)
        self.refused(self.world, "NoNumber", (NUMBERS,), self.world.enter, 0, NUMBERS, 0)
        self.world.leave(0, 2)
        self.assertIsNone(self.world.enter(0, 8, 0))

    def test_leave(self):
        for hand in NO_NUMBERS + [1, 7, 15]:
            self.refused(self.world, "NoHand", (hand,), self.world.leave, 0, hand)
        # 5 is the place of the keeper of room 2; 0 is where nobody ever was
        self.refused(self.world, "InUse", (), self.world.leave, 0, 5)
        self.world.enter(2, 3, 0)
        self.refused(self.world, "InUse", (), self.world.leave, 0, 0)
        self.world.move(2, 3, 5)
        self.world.leave(2, 3)
        # an edge once is an edge for ever, while the room stands
        self.refused(self.world, "InUse", (), self.world.leave, 0, 0)
        self.world.close_room(2)
        self.assertIsNone(self.world.leave(0, 0))
        self.assertIsNone(self.world.leave(0, 5))
        self.refused(self.world, "NoHand", (5,), self.world.leave, 0, 5)

    def test_a_number_like_an_edge_of_another_room_leaves(self):
        # 5 is an edge of room 2, which doesn't lie over room 1
        self.world.enter(1, 5, 0)
        self.assertIsNone(self.world.leave(1, 5))

    def test_move(self):
        for hand in NO_NUMBERS + [1, 7]:
            self.refused(self.world, "NoHand", (hand,), self.world.move, 0, hand, 0)
            self.refused(self.world, "NoHand", (hand,), self.world.move, 0, hand, [])
        for place in ANYTHING + [3]:
            self.refused(self.world, "NoPlace", (place,), self.world.move, 0, 5, place)
        self.world.enter(2, 3, 0)
        for place in ANYTHING + [1, 7]:
            self.refused(self.world, "NoPlace", (place,), self.world.move, 2, 3, place)

    def test_send(self):
        world = self.world
        for sender in NO_NUMBERS + [1, 7]:
            self.refused(world, "NoHand", (sender,), world.send, 0, sender, 5, "hi")
            self.refused(world, "NoHand", (sender,), world.send, 0, sender, [], [])
        for hearer in [thing for thing in NO_NUMBERS if thing is not None]:
            self.refused(world, "NoNumber", (hearer,), world.send, 0, 5, hearer, "hi")
            self.refused(world, "NoNumber", (hearer,), world.send, 0, 5, hearer, None)
        for text in NO_TEXTS:
            self.refused(world, "BadText", (), world.send, 0, 5, 0, text)
            self.refused(world, "BadText", (), world.send, 0, 5, None, text)

    def test_texts_that_may_be_sent(self):
        signs = [chr(number) for number in range(32, 127) if number != 37]
        for text in ["", "a" * TEXT, " " * TEXT] + signs:
            self.assertIsInstance(self.world.send(0, 5, 5, text), int)
            self.assertEqual(self.world.ear(0, 5)[-1][2], text)


class GateRefusalTest(WorldCase):
    def setUp(self):
        self.world = world_with(LINE, ("once", 1, {0: 0, 5: 2}), ("row", 0, {0: 0, 1: 1}), ("loose", 0, {2: 2}))
        self.world.put_room("loose", 5, over=0)
        self.world.put_room("loose", 5, over=0)
        self.put_gate = self.world.put_gate

    def test_rooms(self):
        for room in ANYTHING + [5, 17]:
            self.refused(self.world, "NoRoom", (room,), self.put_gate, [], room, "other", [], [], [])
            self.refused(self.world, "NoRoom", (room,), self.put_gate, [], 0, room, [], [], [])
        for one, other in ((0, 0), (3, 3), (0, 3), (3, 0)):
            self.refused(self.world, "BadGate", ("rooms",), self.put_gate, [], one, other, [], [], [])

    def test_places(self):
        for place in ANYTHING + [3]:
            self.refused(self.world, "NoPlace", (place,), self.put_gate, place, 0, 1, [], [], [])
        for place in ANYTHING + [1, 2]:
            self.refused(self.world, "NoPlace", (place,), self.put_gate, place, 3, 4, [], [], [])
        self.assertEqual(self.put_gate(5, 3, 4, (), (), ()), 0)

    def test_pairs(self):
        right = ((1, 7), (3, 8), (2, 9))
        wrong = [thing for thing in ANYTHING if thing != ()] + [list(right), tuple(map(list, right)), "78", ((1, 7, 2),)]
        wrong += [tuple((k, 6 + k) for k in range(HANDS + 1))]
        for at in range(3):
            for thing in NO_NUMBERS:
                wrong.append(right[:at] + ((thing, right[at][1]),) + right[at + 1:])
                wrong.append(right[:at] + ((right[at][0], thing),) + right[at + 1:])
                wrong.append(right[:at] + (thing,) + right[at + 1:])
        wrong += [((1, 7), (1, 8)), ((1, 7), (2, 7)), ((1, 7), (3, 9), (1, 7))]
        for pairs in wrong:
            self.refused(self.world, "BadGate", ("ours",), self.put_gate, 0, 0, 1, pairs, [], [])
            self.refused(self.world, "BadGate", ("theirs",), self.put_gate, 0, 0, 1, right, pairs, [])
        self.assertEqual(self.put_gate(0, 0, 1, right, right, ()), 0)

    def test_aliases_that_are_taken(self):
        put = self.put_gate
        self.world.enter(1, 9, 0)
        self.world.leave(1, 9)
        # 0 and 5 are hands of room 0; 0, 1 are hands of room 1, and 9 was one
        for alias in (0, 5):
            self.refused(self.world, "BadGate", ("ours",), put, 0, 0, 1, ((1, 7), (3, alias)), ((1, 1),), 5)
        for alias in (0, 1, 9):
            self.refused(self.world, "BadGate", ("theirs",), put, 0, 0, 1, ((1, 7),), ((3, alias),), 5)
        self.assertEqual(put(0, 0, 1, ((1, 1), (2, 9)), ((3, 5),), ()), 0)
        # now they are aliases of the first gate
        self.refused(self.world, "BadGate", ("ours",), put, 0, 0, 1, ((1, 9),), (), ())
        self.refused(self.world, "BadGate", ("theirs",), put, 0, 2, 0, (), ((1, 1),), ())
        self.refused(self.world, "BadGate", ("theirs",), put, 1, 0, 1, (), ((4, 5),), ())
        self.world.close_gate(0)
        # and none of them is a hand's now, so aliases they may be again
        self.assertEqual(put(0, 0, 1, ((1, 1), (2, 9)), ((3, 5),), ()), 1)

    def test_as_many_pairs_as_may_be(self):
        ours = tuple((k, k + 6) for k in range(HANDS))
        theirs = tuple((k + 8, k + 2) for k in range(HANDS))
        may = tuple(("in" if k % 2 else "out", k, k) for k in range(2 * HANDS))
        self.assertEqual(self.put_gate(0, 0, 1, ours, theirs, may), 0)
        self.assertEqual(self.world.gates(), ((0, 0, 0, 1, ours, theirs, may),))

    def test_rules(self):
        right = (("out", 1, 2), ("in", 3, 1), ("out", 0, 0), ("out", 1, 2))
        wrong = [thing for thing in ANYTHING if thing != ()] + [list(right), "out", (("out", 1),), (("out", 1, 2, 3),)]
        wrong += [tuple(("out", 1, k) for k in range(2 * HANDS + 1))]
        for at in range(len(right)):
            for place in range(3):
                for thing in NO_NUMBERS + ["on", "IN", ""]:
                    row = right[at][:place] + (thing,) + right[at][place + 1:]
                    wrong.append(right[:at] + (row,) + right[at + 1:])
            wrong.append(right[:at] + (list(right[at]),) + right[at + 1:])
        for may in wrong:
            self.refused(self.world, "BadGate", ("may",), self.put_gate, 0, 0, 1, ((1, 7),), ((2, 8),), may)
        self.assertEqual(self.put_gate(0, 0, 1, ((1, 7),), ((2, 8),), right), 0)

    def test_full(self):
        for gate in range(GATES):
            self.assertEqual(self.put_gate(0, 0, 1, (), (), ()), gate)
        self.refused(self.world, "Full", (), self.put_gate, 0, 0, 1, (), (), ())
        self.refused(self.world, "BadGate", ("may",), self.put_gate, 0, 0, 1, (), (), None)
        self.world.close_gate(1)
        self.refused(self.world, "Full", (), self.put_gate, 0, 0, 1, (), (), ())

    def test_close_gate(self):
        self.put_gate(0, 0, 1, ((1, 7),), (), ())
        for gate in ANYTHING + [1, 17, "0", (0,)]:
            self.refused(self.world, "NoGate", (gate,), self.world.close_gate, gate)
        self.assertIsNone(self.world.close_gate(0))
        self.refused(self.world, "NoGate", (0,), self.world.close_gate, 0)


class RoadRefusalTest(WorldCase):
    def test_no_road(self):
        world = world_with(LINE, ("once", 1, {0: 0, 5: 2}))
        for thing in ANYTHING + [3]:
            self.refused(world, "NoRoad", (thing, 1), world.fall, thing, 1)
            self.refused(world, "NoRoad", (1, thing), world.rise, 1, thing)
            self.refused(world, "NoRoad", (thing, thing), world.fall, thing, thing)
        self.refused(world, "NoRoad", (0, 2), world.fall, 0, 2)
        self.refused(world, "NoRoad", (2, 0), world.rise, 2, 0)
        self.refused(world, "NoRoad", (True, 0), world.fall, True, 0)

    def test_same(self):
        world = World(*LINE)
        self.refused(world, "Same", (), world.rise, 0, 1)
        self.assertIsNone(world.fall(1, 0))
        self.refused(world, "Same", (), world.fall, 0, 1)
        self.refused(world, "Same", (), world.fall, 1, 0)
        self.assertEqual(world.ground()[2], (False, True))
        self.assertIsNone(world.rise(0, 1))
        self.refused(world, "Same", (), world.rise, 1, 0)


class WeaveRefusalTest(WorldCase):
    def setUp(self):
        self.world = World(*LINE)
        self.world.put_room("once", 0)
        for hand in range(3):
            self.world.enter(0, hand, 2)

    def test_no_tuple_or_too_many(self):
        for weave in [thing for thing in ANYTHING if not isinstance(thing, tuple)] + [[(0, "lose")]]:
            self.refused(self.world, "BadWeave", (None,), self.world.step, weave=weave)
        self.refused(self.world, "BadWeave", (None,), self.world.step, weave=((0, "lose"),) * (WEAVE + 1))

    def test_pairs(self):
        right = ((0, "hold"), (1, "double"), (2, "lose"))
        self.assertEqual([row[0] for row in self.world.frames()], [0, 1, 2])
        for at in range(3):
            for thing in ANYTHING + [3, (0,), (0, "lost"), (3, "lose"), (True, "lose"), (0, "lose", 1), [0, "lose"]]:
                weave = right[:at] + (thing,) + right[at + 1:]
                self.refused(self.world, "BadWeave", (at,), self.world.step, weave=weave)
        self.refused(self.world, "BadWeave", (1,), self.world.step, weave=(right[1], right[0]))
        self.refused(self.world, "BadWeave", (1,), self.world.step, weave=(right[1], right[1]))
        self.assertIsNone(self.world.step(weave=right))

    def test_weave_is_handed_in_by_its_name(self):
        self.assertRaises(TypeError, self.world.step, ())


class LongTest(WorldCase):
    def deeds(self, world):
        return [
            (world.put_room, ([], None)), (world.close_room, ([],)), (world.enter, (0, None, None)),
            (world.leave, (9, 9)), (world.move, (0, 0, 0)), (world.send, (0, 0, 0, "hi")),
            (world.put_gate, (0, 0, 0, 0, 0, 0)), (world.close_gate, (0,)), (world.fall, (0, 1)), (world.rise, (0, 9)),
        ]

    def test_at_so_many_deeds(self):
        world = World(*PAIR)
        world.put_room("loose", 0)
        world.enter(0, 0, 0)
        while len(world) < DEEDS - 1:
            world.send(0, 0, 0, "hi")
        self.refused(world, "NoHand", (3,), world.send, 0, 3, 0, "hi")
        world.step()
        self.assertIsNone(world.move(0, 0, 0))
        self.assertEqual(len(world), DEEDS)
        for call, things in self.deeds(world):
            self.refused(world, "Long", (), call, *things)
        self.assertIsNone(world.step())
        self.refused(world, "BadWeave", (None,), world.step, weave=5)
        self.assertEqual(world.beat(), 2)

    def test_at_so_many_beats(self):
        world = World(1, ())
        world.put_room("loose", 0)
        for beat in range(BEATS):
            self.assertIsNone(world.step())
        self.assertEqual(world.beat(), BEATS)
        self.refused(world, "Long", (), world.step)
        self.refused(world, "Long", (), world.step, weave="no weave")
        # deeds but steps may still be done
        self.assertIsNone(world.enter(0, 3, 0))
        self.assertEqual(world.send(0, 3, 3, "hi"), 1)
        self.assertEqual(len(world), 3)


class AnythingTest(WorldCase):
    def test_deeds_handed_anything_are_refused_and_nothing_else(self):
        world = world_with(LINE, ("once", 1, {0: 0, 5: 2}), ("row", 0, {0: 0, 1: 1}))
        things = ANYTHING + [0, 5, (0, 1), ((1, 7),), HUNDREDS]
        counts = {"close_room": 1, "enter": 3, "leave": 2, "move": 3, "send": 4, "close_gate": 1, "fall": 2, "rise": 2}
        for word, many in counts.items():
            for at in range(many):
                for thing in things:
                    handed = [0, 5, 1, "hi"][:many]
                    handed[at] = thing
                    other = world.twin()
                    try:
                        getattr(other, word)(*handed)
                    except NetError:
                        self.assertEqual(told_of(other), told_of(world))
                    else:
                        self.assertEqual(len(other), len(world) + 1)


if __name__ == "__main__":
    unittest.main()
