"""Rooms led to plain nets."""

import random
import unittest

from tests.led_by_hand import led
from tests.samples import ANYTHING
from tests.test_plain import judged
from tests.test_worlds_runs import LONE, deeds_of, run
from tests.world_cases import LINE, PAIR, WorldCase, world_with
from tests.world_deeds import done, grounds
from wrapnets.errors import NetError, NoRoom
from wrapnets.filters import KINDS
from wrapnets.leading import plain_of
from wrapnets.plain import first_wrong, is_plain
from wrapnets.worlds import World


class CaseTest(WorldCase):
    def test_a_room_over_the_ground(self):
        world = world_with(PAIR, ("once", 0, {3: 0, 4: 1}))
        self.assertEqual(plain_of(world, 0), ((("come", 3, "hand"), ("come", 4, "hand")), ()))
        world.send(0, 3, 4, "a b")
        sent = (("come", 3, "hand"), ("come", 4, "hand"), ("send", 3, 1, 4, ".a b"))
        self.assertEqual(plain_of(world, 0), (sent, ((3, 1),)))
        world.step(weave=((world.frames()[0][0], "double"),))
        # heard, and still open, as the doubled one is under way
        heard = sent + (("hear", 4, 3, 1, ".a b"),)
        self.assertEqual(plain_of(world, 0), (heard, ((3, 1),)))
        world.step()
        self.assertEqual(plain_of(world, 0), (heard + (("lose", 3, 1),), ()))
        world.leave(0, 4)
        world.send(0, 3, None, "")
        rows = heard + (("lose", 3, 1), ("go", 4), ("send", 3, 2, None, "."))
        self.assertEqual(plain_of(world, 0), (rows, ((3, 2),)))
        world.step()
        self.assertEqual(plain_of(world, 0), (rows + (("lose", 3, 2),), ()))

    def test_heres_and_tells_are_none_of_its_letters(self):
        world = World(*LINE)
        world.put_room("row", 0)
        world.enter(0, 3, 2)
        self.assertEqual(plain_of(world, 0), ((("come", 3, "hand"),), ()))
        world.step(weave=((0, "lose"),))
        self.assertEqual([row[0] for row in world.log()], ["came", "wrapped", "dropped"])
        self.assertEqual(plain_of(world, 0), ((("come", 3, "hand"),), ()))

    def test_gates(self):
        world = world_with(LINE, ("once", 0, {3: 0}), ("once", 2, {2: 2}))
        world.put_gate(1, 0, 1, ((2, 7),), ((3, 8),), (("out", 3, 2),))
        self.settle(world)
        world.send(0, 3, 7, "x")
        self.settle(world)
        self.assertEqual(plain_of(world, 0), ((
            ("come", 3, "hand"), ("come", 7, "alias"), ("send", 3, 1, 7, ".x"), ("hear", 7, 3, 1, ".x"),
        ), ()))
        self.assertEqual(plain_of(world, 1), ((
            ("come", 2, "hand"), ("come", 8, "alias"), ("send", 8, 1, 2, ".x"), ("hear", 2, 8, 1, ".x"),
        ), ()))
        world.send(1, 2, 8, "y")
        self.settle(world)
        world.close_gate(0)
        # dropped by rule in room 1
        self.assertEqual(plain_of(world, 1)[0][-4:], (
            ("send", 2, 1, 8, ".y"), ("hear", 8, 2, 1, ".y"), ("lose", 2, 1), ("go", 8),
        ))
        self.assertEqual(plain_of(world, 0)[0][-1:], (("go", 7),))


class LayerTest(WorldCase):
    """Room 1 over room 0; what bears a letter of room 1, and what bears one that does."""

    def setUp(self):
        self.world = world_with(PAIR, ("once", 0, {0: 0, 5: 1}))
        self.world.put_room("row", 0, over=0)
        self.world.enter(1, 7, 0)
        self.world.enter(1, 8, 5)
        self.settle(self.world)
        self.world.send(1, 8, 7, "x")
        self.rows = (("come", 7, "hand"), ("come", 8, "hand"), ("send", 8, 1, 7, ".x"))

    def test_open_by_what_bears_it(self):
        self.assertEqual(plain_of(self.world, 1), (self.rows, ((8, 1),)))
        # the letter of room 0 that bears it is open there
        self.assertEqual(plain_of(self.world, 0)[1], ((5, 2),))

    def test_lost_with_the_ground_letter_that_bears_what_bears_it(self):
        self.world.step(weave=((self.world.frames()[0][0], "lose"),))
        self.assertEqual(plain_of(self.world, 1), (self.rows + (("lose", 8, 1),), ()))
        self.assertEqual(plain_of(self.world, 0)[0][-1], ("lose", 5, 2))

    def test_lost_in_the_room_beneath(self):
        # the doubled letter of room 0 is heard there once, and dropped as heard again
        self.world.step(weave=((self.world.frames()[0][0], "double"),))
        rows = self.rows + (("hear", 7, 8, 1, ".x"),)
        self.assertEqual(plain_of(self.world, 1), (rows, ((8, 1),)))
        self.world.step()
        self.assertEqual(self.world.log()[-1][2:4], ("again", 0))
        self.assertEqual(plain_of(self.world, 1), (rows + (("lose", 8, 1),), ()))

    def test_heres_of_the_upper_room_are_letters_beneath_alone(self):
        self.settle(self.world)
        rows = plain_of(self.world, 1)[0]
        self.world.move(1, 8, 0)
        self.world.move(1, 8, 5)
        self.assertEqual(plain_of(self.world, 1), (rows, ()))
        self.assertEqual(len(plain_of(self.world, 0)[1]), 2)
        self.world.fall(0, 1)
        self.assertEqual(plain_of(self.world, 1), (rows, ()))
        self.assertEqual([row[0] for row in plain_of(self.world, 0)[0][-2:]], ["lose", "lose"])

    def test_closed_rooms(self):
        self.world.close_room(1)
        self.assertEqual(plain_of(self.world, 1), (self.rows, ((8, 1),)))
        self.settle(self.world)
        # dropped as its room is there no more
        self.assertEqual(plain_of(self.world, 1), (self.rows + (("lose", 8, 1),), ()))
        self.world.close_room(0)
        self.assertIsNone(first_wrong("once", plain_of(self.world, 0)))

    def test_both_closed_while_it_runs(self):
        self.world.close_room(1)
        self.world.close_room(0)
        self.assertEqual(plain_of(self.world, 1), (self.rows, ((8, 1),)))
        self.settle(self.world)
        self.assertEqual(self.world.log()[-1], ("dropped", self.world.beat(), "noroom", 0, "l", 5, 2))
        self.assertEqual(plain_of(self.world, 1), (self.rows + (("lose", 8, 1),), ()))


class RefusedTest(WorldCase):
    def test_no_room(self):
        world = world_with(PAIR, ("once", 0, {3: 0}), ("row", 0, {}))
        world.close_room(1)
        for room in ANYTHING + [2, 6, 10 ** 20, "0", (0,), [1]]:
            self.refused(world, "NoRoom", (room,), plain_of, world, room)
        self.assertEqual(plain_of(world, 1), ((), ()))
        self.assertRaises(NoRoom, plain_of, World(*PAIR), 0)


class RunTest(unittest.TestCase):
    def test_always_right(self):
        source = random.Random(21)
        kinds_seen, opened = set(), 0
        for ground in grounds(source, 25) + [LONE]:
            world, kinds = World(*ground), []
            for at, (word, things) in enumerate(deeds_of(source, world, 220)):
                try:
                    done(world, word, things)
                except NetError:
                    continue
                kinds += [things[0]] if word == "put_room" else []
                if at % 20 == 0:
                    ahead = world.view(), world.log()
                    for room, kind in enumerate(kinds):
                        paper = plain_of(world, room)
                        self.assertEqual(paper, led(world, room))
                        self.assertIsNone(first_wrong(kind, paper))
                        self.assertIs(is_plain(kind, paper), True)
                        opened += len(paper[1])
                    self.assertEqual((world.view(), world.log()), ahead)
            kinds_seen |= set(kinds)
        self.assertEqual(kinds_seen, set(KINDS))
        self.assertGreater(opened, 100)

    def test_papers_with_a_row_changed_out_or_twice_are_judged_as_told(self):
        source = random.Random(22)
        wrong = right = 0
        for ground in grounds(source, 10):
            world, stood, kinds = run(source, ground, 120)
            for room, kind in enumerate(kinds):
                rows, still_open = plain_of(world, room)
                for many in range(15 if rows else 0):
                    at = source.randrange(len(rows))
                    changed = source.choice((
                        rows[:at] + rows[at + 1:], rows[:at + 1] + rows[at:], rows[:at] + rows[at + 1:] + rows[at:at + 1],
                        rows[:at] + (source.choice(rows),) + rows[at + 1:],
                    ))
                    told = first_wrong(kind, (changed, still_open))
                    self.assertEqual(told, judged(kind, changed, still_open))
                    wrong += told is not None
                    right += told is None
                if still_open:
                    self.assertEqual(first_wrong(kind, (rows, still_open[:-1])), judged(kind, rows, still_open[:-1]))
        self.assertGreater(wrong, 100)
        self.assertGreater(right, 100)


if __name__ == "__main__":
    unittest.main()
