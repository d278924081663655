"""Whether tables tell the truth, what may keep them from it, and rest."""

import random
import unittest

from tests.led_by_hand import borne
from tests.samples import ANYTHING, GROUNDS, LONG_LINE
from tests.test_worlds_runs import LONE, deeds_of, run
from tests.world_cases import LINE, PAIR, STAR, WorldCase, world_with
from tests.world_deeds import done, grounds
from wrapnets import bounds
from wrapnets.errors import NetError
from wrapnets.truth import is_quiet, is_true, loose_ends
from wrapnets.worlds import World


class TrueTest(WorldCase):
    def told(self, world, room=0):
        return is_true(world, room), loose_ends(world, room)

    def test_at_first_and_behind_news_that_came(self):
        world = World(*PAIR)
        world.put_room("once", 0)
        self.assertEqual(self.told(world), (True, (0, 0)))
        world.enter(0, 3, 1)
        self.assertEqual(self.told(world), (True, (0, 1)))
        world.enter(0, 4, 0)
        # the tell of 4 to the edge 1 is under way too
        self.assertEqual(self.told(world), (True, (0, 2)))
        self.settle(world)
        self.assertEqual(self.told(world), (True, (0, 0)))

    def test_while_news_are_under_way(self):
        world = world_with(STAR, ("once", 0, {3: 1, 4: 2}))
        world.move(0, 3, 3)
        self.assertEqual(self.told(world), (False, (0, 1)))
        world.step()
        # now the keeper knows, and the tells to 1 and 2, and of 4 to 3, run
        self.assertEqual(self.told(world), (False, (0, 3)))
        world.step()
        self.assertEqual(self.told(world), (True, (0, 0)))

    def test_a_here_that_is_lost(self):
        world = world_with(STAR, ("once", 0, {3: 1, 4: 2}))
        world.move(0, 3, 3)
        world.step(weave=((world.frames()[0][0], "lose"),))
        self.assertEqual(self.told(world), (False, (1, 0)))
        # who left is in no table wrongly
        world.leave(0, 3)
        self.assertEqual(self.told(world), (True, (1, 0)))

    def test_a_tell_that_is_lost(self):
        world = world_with(STAR, ("once", 0, {3: 1, 4: 2}))
        world.move(0, 3, 0)
        self.assertEqual([row[1:3] for row in world.letters()], [(0, 1), (0, 2)])
        world.step(weave=((world.frames()[1][0], "lose"),))
        self.assertEqual(self.told(world), (False, (1, 0)))

    def test_each_frame_and_heap_that_is_dropped_counts(self):
        world = World(2, ((0, 1, 1, 16),))
        world.put_room("once", 0)
        for beat in range(100):
            world.step()
        world.enter(0, 15, 1)
        self.assertEqual([len(row[3]) for row in world.frames()], [16, 1])
        self.assertEqual(loose_ends(world, 0), (0, 1))
        world.step(weave=((0, "lose"),))
        # a frame lost, a heap that waits
        self.assertEqual(loose_ends(world, 0), (1, 1))
        self.settle(world)
        self.assertEqual(loose_ends(world, 0), (2, 0))

    def test_letters_of_hands_are_no_loose_ends(self):
        world = world_with(PAIR, ("once", 0, {3: 0, 4: 1}))
        world.send(0, 3, 4, "x")
        self.assertEqual(self.told(world), (True, (0, 0)))
        world.step(weave=((world.frames()[0][0], "lose"),))
        self.assertEqual(self.told(world), (True, (0, 0)))

    def test_aliases_count_as_hands_do(self):
        world = world_with(STAR, ("once", 0, {3: 1}), ("once", 0, {}))
        world.put_gate(2, 0, 1, ((1, 7),), (), ())
        self.settle(world)
        world.close_gate(0)
        world.put_gate(3, 0, 1, ((1, 7),), (), ())
        # at place 0 and 1 the tables tell that 7 is at 2
        self.assertEqual(self.told(world), (False, (0, 1)))
        self.settle(world)
        self.assertEqual(self.told(world), (True, (0, 0)))

    def test_borne_by_letters_of_the_room_beneath(self):
        world = world_with(PAIR, ("once", 0, {0: 0, 5: 1}))
        world.put_room("row", 0, over=0)
        world.enter(1, 7, 0)
        world.enter(1, 8, 5)
        self.assertEqual(loose_ends(world, 1), (0, 1))
        # of room 0 it is a letter of hands
        self.assertEqual(loose_ends(world, 0), (0, 0))
        world.step(weave=((world.frames()[0][0], "double"),))
        self.assertEqual(loose_ends(world, 1), (0, 2))
        world.step()
        # the doubled one was dropped by the filter of room 0
        self.assertEqual([row[2:5] for row in self.rows(world, "dropped")], [("again", 0, "l")])
        self.assertEqual(loose_ends(world, 1), (1, 0))
        self.assertEqual(loose_ends(world, 0), (0, 0))
        world.move(0, 5, 0)
        self.assertEqual((loose_ends(world, 0), loose_ends(world, 1)), ((0, 1), (1, 0)))

    def test_borne_and_lost_on_the_ground(self):
        world = world_with(PAIR, ("once", 0, {0: 0, 5: 1}))
        world.put_room("row", 0, over=0)
        world.enter(1, 8, 5)
        world.fall(0, 1)
        self.assertEqual((loose_ends(world, 1), loose_ends(world, 0)), ((1, 0), (0, 0)))

    def test_no_room(self):
        world = world_with(PAIR, ("once", 0, {3: 0}), ("row", 0, {}))
        world.close_room(1)
        for room in ANYTHING + [1, 2, 10 ** 20, "0", (0,), [0]]:
            self.refused(world, "NoRoom", (room,), is_true, world, room)
            self.refused(world, "NoRoom", (room,), loose_ends, world, room)


class RunTest(unittest.TestCase):
    def test_true_where_there_are_no_loose_ends(self):
        source = random.Random(41)
        seen = {}
        for ground in grounds(source, 30) + [LONE]:
            world = World(*ground)
            calm = source.random() < 0.5
            for at, (word, things) in enumerate(deeds_of(source, world, 200)):
                # without weaves and falls more rooms stay without loose ends
                if calm and word in ("fall", "step"):
                    word, things = "step", ()
                try:
                    done(world, word, things)
                except NetError:
                    continue
                for room in [row[0] for row in world.rooms()] if at % 4 == 0 else []:
                    told, ends = is_true(world, room), loose_ends(world, room)
                    self.assertIs(type(told), bool)
                    if ends == (0, 0):
                        self.assertTrue(told)
                    key = told, ends[0] > 0, ends[1] > 0
                    seen[key] = seen.get(key, 0) + 1
        self.assertEqual(len(seen), 7)

    def test_as_counted_by_hand(self):
        source = random.Random(42)
        for ground in grounds(source, 10):
            world, stood, kinds = run(source, ground, 150)
            texts = {row[2:5]: row[6] for row in world.log() if row[0] == "sent"}
            for room in [row[0] for row in world.rooms()]:
                dropped = under_way = 0
                for row in world.log():
                    if row[0] == "dropped" and row[4] in "ht":
                        dropped += row[3] == room
                    elif row[0] == "dropped":
                        inner = borne(texts[row[3], row[5], row[6]])
                        dropped += inner is not None and inner[0] == room and inner[1] in "ht"
                for row in world.letters():
                    front, text = row[3].split(":", 1)
                    outer, inner = (int(front.split(".")[0]), front.split(".")[1]), borne(text)
                    under_way += any(each[0] == room and each[1] in "ht" for each in (outer, inner) if each)
                self.assertEqual(loose_ends(world, room), (dropped, under_way))

    def test_nothing_is_other_behind_a_question(self):
        source = random.Random(43)
        world, stood, kinds = run(source, grounds(source, 1)[-1], 150)
        ahead = world.view(), world.log(), world.batches()
        for room in [row[0] for row in world.rooms()]:
            is_true(world, room)
            loose_ends(world, room)
        is_quiet(world)
        self.assertEqual((world.view(), world.log(), world.batches()), ahead)


class QuietTest(WorldCase):
    def test_frames_and_heaps(self):
        world = World(2, ((0, 1, 1, 16),))
        self.assertIs(is_quiet(world), True)
        world.put_room("once", 0)
        for beat in range(100):
            world.step()
        world.enter(0, 15, 1)
        self.assertIs(is_quiet(world), False)
        world.step(weave=((0, "lose"),))
        # no frame, but a heap
        self.assertEqual((world.frames(), len(world.heaps())), ((), 1))
        self.assertIs(is_quiet(world), False)
        while world.heaps():
            world.step()
        self.assertIs(is_quiet(world), True)

    def test_rest(self):
        told = 2 * (bounds.HOPS * bounds.DELAY + bounds.JOIN + 1) * (bounds.COUNT + 1) * (bounds.COUNT + 1)
        self.assertEqual(bounds.REST, told)
        self.assertEqual(bounds.REST, 1150)

    def test_every_world_is_quiet_within_rest(self):
        source = random.Random(44)
        longest = 0
        for ground in GROUNDS + [LONG_LINE] * 5 + grounds(source, 20):
            world, stood, kinds = run(source, ground, source.randint(20, 250))
            beats = 0
            while not is_quiet(world):
                self.assertIsNone(world.step())
                beats += 1
            self.assertLessEqual(beats, bounds.REST)
            longest = max(beats, longest)
            # and stays so
            world.step()
            self.assertIs(is_quiet(world), True)
        self.assertGreater(longest, 10)

    def test_letters_that_are_led_to_and_fro(self):
        world = world_with(LINE, ("loose", 1, {3: 0, 4: 2}))
        for many in range(10):
            world.send(0, 3, 4, "x")
            world.move(0, 4, (0, 1, 2)[many % 3])
        for beat in range(bounds.REST):
            world.step()
        self.assertIs(is_quiet(world), True)


if __name__ == "__main__":
    unittest.main()
