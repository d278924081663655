"""Whole histories: the same deeds by calls, in batches and in lines, and worlds beside one another."""

import random
import unittest

from tests.said import said
from tests.samples import ANYTHING
from tests.test_worlds_runs import LONE, SHARES, run
from tests.world_cases import ears_of, told_of
from tests.world_deeds import done, drawn_deed, furnished, grounds
from wrapnets.bounds import BATCH
from wrapnets.desks import Desk
from wrapnets.errors import BadDeeds, Broken, Busy, NetError
from wrapnets.fars import is_settled
from wrapnets.leading import plain_of
from wrapnets.truth import is_true, loose_ends
from wrapnets.worlds import World


def history(source, ground, many):
    """Deeds of a run, those that are refused too, with what each told or the refusal, and the world behind them."""
    world, rows = World(*ground), []
    first, share = furnished(source, world), source.choice(SHARES)
    for at in range(many):
        word, things = first[at] if at < len(first) else drawn_deed(source, world, share)
        try:
            rows.append((word, things, done(world, word, things), None))
        except NetError as error:
            rows.append((word, things, None, error))
    return world, rows


def all_told(world):
    """All that a world tells but for its batches, and what judges tell of it."""
    rooms = [row[0] for row in world.rooms()]
    return (
        world.view(), world.log(), len(world), str(world), ears_of(world),
        [plain_of(world, room) for room in range(world.made()[0])],
        [(is_true(world, room), loose_ends(world, room)) for room in rooms],
    )


class SameDeedsTest(unittest.TestCase):
    def test_in_batches(self):
        source = random.Random(51)
        for ground in grounds(source, 10) + [LONE]:
            world, rows = history(source, ground, 150)
            other = World(*ground)
            good = [row for row in rows if row[3] is None]
            while good:
                many = source.randint(0, BATCH)
                part, good = good[:many], good[many:]
                told = other.batch(tuple((word,) + things for word, things, answer, error in part))
                self.assertEqual(told, tuple(row[2] for row in part))
            self.assertTrue(world == other)
            self.assertEqual(all_told(world), all_told(other))

    def test_batches_with_a_refused_deed_in_them(self):
        source = random.Random(52)
        for ground in grounds(source, 6):
            world, rows = history(source, ground, 120)
            other = World(*ground)
            for word, things, answer, error in rows:
                deed = (word,) + things
                if error is None:
                    self.assertEqual(other.batch((deed,)), (answer,))
                else:
                    ahead = all_told(other) if source.random() < 0.3 else None
                    with self.assertRaises(Broken) as caught:
                        other.batch((deed, ("step",)))
                    self.assertEqual(caught.exception.at, 0)
                    cause = caught.exception.__cause__
                    self.assertEqual((type(cause), vars(cause)), (type(error), vars(error)))
                    self.assertTrue(ahead is None or ahead == all_told(other))
            self.assertEqual(all_told(world), all_told(other))

    def test_in_lines(self):
        source = random.Random(53)
        lines = refused = 0
        for ground in grounds(source, 10) + [LONE]:
            world, rows = history(source, ground, 150)
            other = World(*ground)
            desk = Desk(other)
            for word, things, answer, error in rows:
                line = said(word, things)
                # what can't be said is called
                if line is None or "-1" in line.split(" "):
                    try:
                        done(other, word, things)
                    except NetError:
                        self.assertIsNotNone(error)
                    continue
                if error is not None:
                    expected = "no " + type(error).__name__
                    refused += 1
                else:
                    expected = "done" if answer is None else f"done {answer}"
                self.assertEqual(desk.say(line), expected, line)
                lines += 1
            self.assertEqual(all_told(world), all_told(other))
        self.assertGreater(lines, 1000)
        self.assertGreater(refused, 50)

    def test_where_of_all_letters(self):
        source = random.Random(54)
        answers = set()
        for ground in grounds(source, 6):
            world, stood, kinds = run(source, ground, 150)
            desk = Desk(world)
            for row in world.log():
                if row[0] != "sent":
                    continue
                room, sender, number = row[2:5]
                answer = desk.say(f"where {room} {sender} {number}")
                rows, still_open = plain_of(world, room)
                heard = {each[1] for each in rows if each[0] == "hear" and each[2:4] == (sender, number)}
                self.assertEqual(f"heard {len(heard)}" in answer, bool(heard))
                self.assertEqual("dropped " in answer, ("lose", sender, number) in rows)
                self.assertEqual("under way" in answer, (sender, number) in still_open)
                answers.add(" ".join(word for word in answer.split(" ") if not word.isdigit()))
        self.assertGreater(len(answers), 8)
        self.assertIn("nowhere", answers)


class RefusedIsNeverSeenTest(unittest.TestCase):
    def test_beside_a_world_without_what_is_refused(self):
        source = random.Random(55)
        for ground in grounds(source, 8):
            world, rows = history(source, ground, 150)
            other = World(*ground)
            for word, things, answer, error in rows:
                if error is None:
                    self.assertEqual(done(other, word, things), answer)
            self.assertEqual(told_of(world), told_of(other))

    def test_what_breaks_busy_and_no_batches(self):
        source = random.Random(56)
        for ground in grounds(source, 4):
            world, rows = history(source, ground, 80)
            other = world.twin()
            bad = (("step",), ("send", "x", 0, 0, ""))
            for many in range(20):
                word, things = drawn_deed(source, world, 0.1)
                self.assertRaises(Broken, other.batch, (("step",), (word,) + things) + bad)
                self.assertRaises(BadDeeds, other.batch, source.choice(ANYTHING) or [()])
                self.assertRaises(Busy, other.batch, (("step",),), tell=lambda each: each.step())
                told = []
                for each in (world, other):
                    try:
                        told.append(done(each, word, things))
                    except NetError as error:
                        told.append((type(error), vars(error)))
                self.assertEqual(told[0], told[1])
            self.assertEqual(all_told(world), all_told(other))


class BesideOneAnotherTest(unittest.TestCase):
    def test_worlds_change_nothing_of_one_another(self):
        source = random.Random(57)
        runs = []
        for ground in grounds(source, 3):
            world, rows = history(source, ground, 120)
            runs.append((World(*ground), list(rows), told_of(world)))
        # the same deeds once more, now in turns
        while any(rows for world, rows, told in runs):
            world, rows, told = source.choice(runs)
            if rows:
                word, things, answer, error = rows.pop(0)
                try:
                    self.assertEqual(done(world, word, things), answer)
                except NetError as refusal:
                    self.assertEqual((type(refusal), vars(refusal)), (type(error), vars(error)))
        for world, rows, told in runs:
            self.assertEqual(told_of(world), told)

    def test_fars_of_worlds_that_rest_are_settled(self):
        source = random.Random(58)
        for ground in grounds(source, 10):
            world, stood, kinds = run(source, ground, 100)
            for beat in range(40):
                world.step()
            self.assertIs(is_settled(*world.ground()), True)


if __name__ == "__main__":
    unittest.main()
