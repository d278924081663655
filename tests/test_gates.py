"""May a letter pass a gate, of gates as a world tells them."""

import unittest

from wrapnets.gates import may_pass
from wrapnets.worlds import World

# Hand 2 of room 5 is 7 in room 4; hands 3 and 1 of room 4 are 8 and 9 in room 5.
GATE = (0, 1, 4, 5, ((2, 7), (6, 9)), ((3, 8), (1, 9)), (("out", 3, 2), ("in", 2, 3), ("out", 1, 6)))


class MayPassTest(unittest.TestCase):
    def test_out(self):
        self.assertEqual(may_pass(GATE, 4, 3, 7), (5, 8, 2))
        self.assertEqual(may_pass(GATE, 4, 1, 9), (5, 9, 6))

    def test_in(self):
        self.assertEqual(may_pass(GATE, 5, 2, 8), (4, 7, 3))

    def test_without_a_rule(self):
        self.assertIsNone(may_pass(GATE, 4, 3, 9))
        self.assertIsNone(may_pass(GATE, 4, 1, 7))
        self.assertIsNone(may_pass(GATE, 5, 2, 9))
        # the rule out of room 4 is none into it
        self.assertIsNone(may_pass(GATE, 5, 6, 9))

    def test_of_senders_without_an_alias(self):
        may = tuple((word, a, b) for word in ("out", "in") for a in range(4) for b in range(4))
        gate = GATE[:6] + (may,)
        self.assertIsNone(may_pass(gate, 4, 2, 7))
        self.assertIsNone(may_pass(gate, 5, 3, 8))
        self.assertEqual(may_pass(gate, 4, 1, 7), (5, 9, 2))

    def test_of_what_is_no_alias_of_it(self):
        self.assertIsNone(may_pass(GATE, 4, 3, 8))
        self.assertIsNone(may_pass(GATE, 4, 3, 2))
        self.assertIsNone(may_pass(GATE, 5, 2, 7))

    def test_of_another_room(self):
        for room in (0, 3, 6):
            self.assertIsNone(may_pass(GATE, room, 3, 7))
            self.assertIsNone(may_pass(GATE, room, 2, 8))

    def test_hand_and_alias_nought(self):
        gate = (2, 0, 0, 1, ((0, 0),), ((1, 1),), (("out", 1, 0), ("in", 0, 1)))
        self.assertEqual(may_pass(gate, 0, 1, 0), (1, 1, 0))
        self.assertEqual(may_pass(gate, 1, 0, 1), (0, 0, 1))

    def test_of_a_gate_that_a_world_tells(self):
        world = World(1, ())
        world.put_room("loose", 0)
        world.put_room("once", 0)
        world.put_gate(0, 1, 0, ((2, 7),), ((3, 8),), (("out", 3, 2),))
        [gate] = world.gates()
        self.assertEqual(may_pass(gate, 1, 3, 7), (0, 8, 2))
        self.assertIsNone(may_pass(gate, 0, 2, 8))
