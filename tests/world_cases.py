"""What tests of worlds share."""

import copy
import unittest

from wrapnets.errors import NetError
from wrapnets.worlds import World

FIELDS = {
    "BadGround": ("at",), "BadWeave": ("at",), "BadRoom": ("word",), "NoRoom": ("room",), "NoNumber": ("number",),
    "Taken": ("number",), "NoHand": ("hand",), "NoPlace": ("place",), "BadGate": ("word",), "NoGate": ("gate",),
    "NoRoad": ("a", "b"), "Broken": ("at",),
}
PAIR = (2, ((0, 1, 1, 80),))
LINE = (3, ((0, 1, 1, 80), (1, 2, 1, 80)))
STAR = (4, ((0, 1, 1, 80), (0, 2, 1, 80), (0, 3, 1, 80)))


def standing(world):
    """All that a world tells without being asked for a room."""
    return world.view(), world.log(), len(world), world.batches(), str(world)


def ears_of(world):
    rooms = [row[0] for row in world.rooms()]
    return {(room, row[0]): world.ear(room, row[0]) for room in rooms for row in world.hands(room)}


def told_of(world):
    """All that a world tells."""
    return standing(world), ears_of(world)


class WorldCase(unittest.TestCase):
    def refused(self, world, kind, fields, call, *things, **named):
        """The call is refused with that class alone and those fields as handed in, and nothing is other."""
        ahead, handed = told_of(world), copy.deepcopy((things, named))
        with self.assertRaises(NetError) as caught:
            call(*things, **named)
        error = caught.exception
        self.assertEqual(type(error).__name__, kind)
        names = FIELDS.get(kind, ())
        self.assertEqual(len(fields), len(names))
        for name, field in zip(names, fields):
            self.assertEqual(getattr(error, name), field)
            self.assertIs(type(getattr(error, name)), type(field))
        self.assertEqual(told_of(world), ahead)
        self.assertEqual((things, named), handed)
        return error

    def steps(self, world, many):
        for beat in range(many):
            self.assertIsNone(world.step())

    def rows(self, world, *words):
        """The log's rows with one of these words."""
        return [row for row in world.log() if row[0] in words]

    def news(self, world, many):
        """The log's rows but for the first ones."""
        return list(world.log()[many:])

    def settle(self, world):
        """Steps till no frame and no heap is there: how many rows the log has then."""
        while world.frames() or world.heaps():
            world.step()
        return len(world.log())


def world_with(ground, *rooms):
    """A world with rooms (kind, keeper, {hand: place}) over the ground, quiet but for what beats are needed."""
    world = World(*ground)
    for kind, keeper, hands in rooms:
        room = world.put_room(kind, keeper)
        for hand, place in hands.items():
            world.enter(room, hand, place)
    while world.frames() or world.heaps():
        world.step()
    return world
