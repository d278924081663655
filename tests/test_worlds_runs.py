"""Whole runs of worlds: laid beside a world written once more, and judged by what the document promises of all."""

import random
import unittest

from tests.led_by_hand import led
from tests.plain_world import PlainWorld
from tests.world_cases import ears_of, told_of
from tests.world_deeds import done, drawn_deed, furnished, grounds
from wrapnets.bounds import COUNT
from wrapnets.errors import NetError
from wrapnets.plain import first_wrong
from wrapnets.worlds import World

SHARES = (0, 0.05, 0.2, 0.4)
LONE = (1, ())


def deeds_of(source, world, many):
    """So many deeds for the world, each drawn as the ones ahead have been done: first those that furnish it."""
    share = source.choice(SHARES)
    first = furnished(source, world)
    for at in range(many):
        yield first[at] if at < len(first) else drawn_deed(source, world, share)


def run(source, ground, many):
    """A world behind so many deeds, with each word and things of those that stand, and the kinds of its rooms."""
    world, stood, kinds = World(*ground), [], []
    for word, things in deeds_of(source, world, many):
        try:
            done(world, word, things)
        except NetError:
            continue
        stood.append((word, things))
        if word == "put_room":
            kinds.append(things[0])
    return world, stood, kinds


class BesideTest(unittest.TestCase):
    def test_as_a_world_written_once_more_does(self):
        source = random.Random(1)
        words, whys = set(), set()
        for ground in grounds(source, 25) + [LONE] * 3:
            world, plain = World(*ground), PlainWorld(*ground)
            for word, things in deeds_of(source, world, 220):
                ahead = told_of(world) if source.random() < 0.05 else None
                try:
                    told = done(world, word, things)
                except NetError:
                    if ahead is not None:
                        self.assertEqual(told_of(world), ahead)
                    continue
                self.assertEqual(told, getattr(plain, word)(*things), (word, things))
                self.assertEqual(world.log(), tuple(plain.rows))
                self.assertEqual(world.view(), plain.view())
                words.add(word)
            self.assertEqual(ears_of(world), plain.ears())
            words |= {row[0] for row in world.log()}
            whys |= {row[2] for row in world.log() if row[0] == "dropped"}
        self.assertLessEqual({
            "put_room", "close_room", "enter", "leave", "move", "send", "put_gate", "close_gate", "fall", "rise", "step",
            "came", "went", "sent", "wrapped", "heard", "dropped", "passed",
        }, words)
        self.assertLessEqual(
            {"lost", "fallen", "broken", "noway", "hops", "again", "late", "gone", "noroom", "rule"}, whys)

    def test_the_same_deeds_tell_the_same(self):
        for number in range(4):
            told = []
            for twice in range(2):
                source = random.Random(number)
                world, stood, kinds = run(source, grounds(source, 1)[-1], 150)
                told.append((stood, told_of(world)))
            self.assertEqual(told[0], told[1])


class PlainTest(unittest.TestCase):
    def judge(self, world, kinds):
        """How many letters were open, of all rooms."""
        many = 0
        for room, kind in enumerate(kinds):
            paper = led(world, room)
            self.assertIsNone(first_wrong(kind, paper), (room, kind))
            many += len(paper[1])
        return many

    def test_each_rooms_log_is_that_of_a_plain_net(self):
        source = random.Random(2)
        opened = passed = 0
        for ground in grounds(source, 25) + [LONE]:
            world, kinds = World(*ground), []
            for at, (word, things) in enumerate(deeds_of(source, world, 250)):
                try:
                    done(world, word, things)
                except NetError:
                    continue
                kinds += [things[0]] if word == "put_room" else []
                if at % 25 == 0:
                    opened += self.judge(world, kinds)
            while world.frames() or world.heaps():
                world.step()
            self.assertEqual(self.judge(world, kinds), 0)
            passed += len([row for row in world.log() if row[0] == "passed"])
        self.assertGreater(opened, 200)
        self.assertGreater(passed, 100)

    def test_a_judge_that_looks(self):
        # a run whose log isn't led right isn't let by: a heard row, and a loss, that are left out
        source = random.Random(3)
        missed = 0
        for ground in grounds(source, 5):
            world, stood, kinds = run(source, ground, 150)
            for room, kind in enumerate(kinds):
                rows, still_open = led(world, room)
                lost = {row[1:] for row in rows if row[0] == "lose"}
                for at, row in enumerate(rows):
                    if row[0] == "hear" and row[2:4] not in lost and row[2:4] not in still_open and kind != "loose":
                        missed += first_wrong(kind, (rows[:at] + rows[at + 1:], still_open)) is not None
        self.assertGreater(missed, 50)


class LogTest(unittest.TestCase):
    def test_letters_come_by_deeds_by_gates_or_as_what_bears(self):
        source = random.Random(4)
        for ground in grounds(source, 10) + [LONE]:
            world, stood, kinds = run(source, ground, 220)
            log = world.log()
            by_deeds = 0
            for at, row in enumerate(log):
                if row[0] != "sent":
                    continue
                ahead = log[at - 1]
                if row[6].startswith("!"):
                    self.assertEqual(ahead[:2], ("wrapped", row[1]))
                    self.assertEqual((ahead[7], ahead[8]), (row[3], row[5]))
                elif ahead[0] == "passed" and ahead[6:] == row[2:5]:
                    [heard] = [other for other in log[:at] if other[0] == "heard" and other[2:3] + other[4:6] == ahead[3:6]
                               and other is log[at - 2]]
                    self.assertEqual(heard[6], row[6])
                else:
                    by_deeds += 1
            self.assertEqual(by_deeds, len([word for word, things in stood if word == "send"]))

    def test_beats_do_not_fall_and_counts_do(self):
        source = random.Random(5)
        for ground in grounds(source, 10):
            world, stood, kinds = run(source, ground, 200)
            beats = [row[1] for row in world.log()]
            self.assertEqual(beats, sorted(beats))
            counts = {}
            for row in world.log():
                if row[0] == "wrapped" and row[3] in "luaf":
                    word, beat, room, kind, sender, hearer, number, p, q, count = row
                    self.assertIn(count, range(COUNT))
                    wraps = counts.setdefault((room, sender, number), [])
                    if kind == "f":
                        self.assertTrue([1 for place, more in wraps if place == p and more > count])
                    wraps.append((q, count))

    def test_tables_tell_the_truth_where_nothing_was_dropped(self):
        source = random.Random(6)
        rows = 0
        for ground in grounds(source, 20):
            world = World(*ground)
            first = furnished(source, world)
            for at in range(120):
                word, things = first[at] if at < len(first) else drawn_deed(source, world, 0)
                if word in ("fall", "rise"):
                    continue
                try:
                    done(world, word, things)
                except NetError:
                    continue
            while world.frames() or world.heaps():
                world.step()
            if [row for row in world.log() if row[0] == "dropped" and row[2] not in ("gone", "rule", "count")]:
                continue
            for room in [row[0] for row in world.rooms()]:
                places = {row[0]: row[1] for row in world.hands(room) + world.aliases(room)}
                for place in world.edges(room):
                    for hand, told, number, beat in world.table(room, place):
                        self.assertEqual(places.get(hand, told), told)
                        rows += hand in places
        self.assertGreater(rows, 100)


if __name__ == "__main__":
    unittest.main()
