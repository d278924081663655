"""The ways of letters, and their judge."""

import random
import unittest

from tests.samples import ANYTHING, altered
from tests.test_worlds_runs import LONE, run
from tests.world_cases import LINE, PAIR, STAR, WorldCase, world_with
from tests.world_deeds import grounds
from wrapnets.bounds import COUNT
from wrapnets.errors import NoRoom
from wrapnets.ways import is_way, way_of
from wrapnets.worlds import World

# To all from place 1, heard there and at 0, led on from 2 to 3 and on to 4, and dropped there.
TO_ALL = (
    ("sent", 5, 2, 3, 1, None, ".x"), ("heard", 5, 2, 4, 3, 1, ".x"),
    ("wrapped", 5, 2, "a", 3, 0, 1, 1, 0, 3), ("wrapped", 5, 2, "a", 3, 0, 1, 1, 2, 3),
    ("heard", 6, 2, 5, 3, 1, ".x"), ("wrapped", 7, 2, "f", 3, 6, 1, 2, 3, 2), ("wrapped", 8, 2, "f", 3, 6, 1, 3, 4, 1),
    ("dropped", 9, "gone", 2, "f", 3, 1),
)
# To one by its place, to an alias that passes it on.
TO_ONE = (
    ("sent", 0, 0, 3, 1, 7, ".x y"), ("wrapped", 0, 0, "l", 3, 7, 1, 0, 1, 3), ("heard", 1, 0, 7, 3, 1, ".x y"),
    ("passed", 1, 0, 0, 3, 1, 1, 8, 1),
)
UNKNOWN = (
    ("sent", 4, 0, 3, 1, 7, "."), ("wrapped", 4, 0, "u", 3, 7, 1, 0, 1, 3), ("wrapped", 4, 0, "u", 3, 7, 1, 0, 2, 3),
    ("dropped", 5, "any why", 0, "u", 3, 1), ("wrapped", 5, 0, "f", 3, 7, 1, 2, 0, 0), ("heard", 6, 0, 7, 3, 1, "."),
)
WAYS = (TO_ALL, TO_ONE, UNKNOWN, TO_ONE[:1])
NO_NUMBERS = [thing for thing in ANYTHING if not isinstance(thing, int) or thing is True or thing is False or thing < 0]
# A tell may have a letter's number: it is none of that letter's rows.
NEWS = ("h", "t", ("h",), ("t",))
# Where whatever text may stand.
TEXTS = {("sent", 6), ("heard", 6), ("dropped", 2)}


class WayOfTest(WorldCase):
    def test_to_one(self):
        world = world_with(LINE, ("once", 1, {3: 0, 4: 2}))
        world.send(0, 3, 4, "hi")
        world.send(0, 3, 4, "ho")
        beat = world.beat()
        self.steps(world, 2)
        self.assertEqual(way_of(world, 0, 3, 1), (
            ("sent", beat, 0, 3, 1, 4, ".hi"), ("wrapped", beat, 0, "l", 3, 4, 1, 0, 2, 3),
            ("heard", beat + 2, 0, 4, 3, 1, ".hi"),
        ))
        self.assertEqual(way_of(world, 0, 3, 2)[0], ("sent", beat, 0, 3, 2, 4, ".ho"))

    def test_to_all_led_on_and_dropped(self):
        world = world_with(STAR, ("once", 0, {3: 0, 4: 1, 5: 1, 6: 0}))
        beat = world.beat()
        world.send(0, 3, None, "x")
        world.move(0, 4, 2)
        world.leave(0, 5)
        self.settle(world)
        self.assertEqual(way_of(world, 0, 3, 1), (
            ("sent", beat, 0, 3, 1, None, ".x"), ("heard", beat, 0, 6, 3, 1, ".x"),
            ("wrapped", beat, 0, "a", 3, 0, 1, 0, 1, 3), ("wrapped", beat + 1, 0, "f", 3, 4, 1, 1, 2, 2),
            ("dropped", beat + 1, "gone", 0, "a", 3, 1), ("heard", beat + 3, 0, 4, 3, 1, ".x"),
        ))

    def test_passed(self):
        world = world_with(LINE, ("once", 0, {3: 0}), ("once", 2, {2: 2}))
        world.put_gate(1, 0, 1, ((2, 7),), ((3, 8),), (("out", 3, 2),))
        self.settle(world)
        beat = world.beat()
        world.send(0, 3, 7, "x")
        self.settle(world)
        self.assertEqual([row[0] for row in way_of(world, 0, 3, 1)], ["sent", "wrapped", "heard", "passed"])
        # in the other room it is another letter
        self.assertEqual(way_of(world, 1, 8, 1), (
            ("sent", beat + 1, 1, 8, 1, 2, ".x"), ("wrapped", beat + 1, 1, "l", 8, 2, 1, 1, 2, 1),
            ("heard", beat + 2, 1, 2, 8, 1, ".x"),
        ))

    def test_letters_that_bear_others(self):
        world = world_with(PAIR, ("once", 0, {0: 0, 5: 1}))
        world.put_room("row", 0, over=0)
        world.enter(1, 8, 5)
        self.assertEqual([row[0] for row in way_of(world, 0, 5, 1)], ["sent", "wrapped"])

    def test_no_room(self):
        world = world_with(PAIR, ("once", 0, {3: 0}))
        world.send(0, 3, 3, "x")
        for room in ANYTHING + [1, "0", (0,)]:
            self.refused(world, "NoRoom", (room,), way_of, world, room, 3, 1)
            self.refused(world, "NoRoom", (room,), way_of, world, room, [], {})
        self.assertRaises(NoRoom, way_of, World(*PAIR), 0, 0, 0)

    def test_no_letter(self):
        world = world_with(PAIR, ("once", 0, {3: 0, 4: 1, 1: 0}), ("row", 0, {2: 0}))
        world.send(0, 3, 4, "x")
        world.send(0, 1, 4, "x")
        world.send(1, 2, 2, "x")
        for thing in ANYTHING + [5, "3", (3,)]:
            self.refused(world, "NoLetter", (), way_of, world, 0, thing, 1)
            self.refused(world, "NoLetter", (), way_of, world, 0, 3, thing)
            self.refused(world, "NoLetter", (), way_of, world, 0, thing, thing)
        # a here is no letter of hands, and letters are those of their rooms
        self.refused(world, "NoLetter", (), way_of, world, 0, 4, 0)
        self.refused(world, "NoLetter", (), way_of, world, 0, 3, 0)
        self.refused(world, "NoLetter", (), way_of, world, 0, 2, 1)
        self.refused(world, "NoLetter", (), way_of, world, 0, True, 1)
        self.refused(world, "NoLetter", (), way_of, world, 0, 1, True)

    def test_closed_rooms(self):
        world = world_with(PAIR, ("once", 0, {3: 0, 4: 1}))
        world.send(0, 3, 4, "x")
        world.close_room(0)
        world.step()
        self.assertEqual(way_of(world, 0, 3, 1)[-1][2], "noroom")

    def test_all_ways_of_whole_runs(self):
        source = random.Random(31)
        words, lengths = set(), set()
        for ground in grounds(source, 12) + [LONE]:
            world, stood, kinds = run(source, ground, 200)
            log = world.log()
            for row in log:
                if row[0] == "sent":
                    way = way_of(world, *row[2:5])
                    self.assertIs(is_way(way), True)
                    expected = [other for other in log if row[2:5] == {
                        "sent": other[2:5], "heard": other[2:3] + other[4:6], "passed": other[3:6],
                        "wrapped": other[2:3] + other[4:5] + other[6:7], "dropped": other[3:4] + other[5:7],
                    }.get(other[0]) and {"wrapped": other[3], "dropped": other[4:5]}.get(other[0]) not in NEWS]
                    self.assertEqual(way, tuple(expected))
                    words |= {row[0] for row in way}
                    lengths.add(len(way))
        self.assertEqual(words, {"sent", "wrapped", "heard", "dropped", "passed"})
        self.assertGreater(len(lengths), 8)


class IsWayTest(unittest.TestCase):
    def no(self, thing):
        self.assertIs(is_way(thing), False, thing)

    def yes(self, thing):
        self.assertIs(is_way(thing), True, thing)

    def test_right_ones(self):
        for way in WAYS:
            self.yes(way)

    def test_anything(self):
        for thing in ANYTHING:
            self.no(thing)
            self.no((thing,))
            for way in WAYS:
                for at in range(len(way) + 1):
                    self.no(way[:at] + (thing,) + way[at:])

    def test_lists_and_rows_that_are_lists(self):
        for way in WAYS:
            self.no(list(way))
            for at, row in enumerate(way):
                self.no(altered(way, at, list(row)))

    def test_each_part_of_each_row(self):
        for way in WAYS:
            for at, row in enumerate(way):
                for place in range(len(row)):
                    for thing in NO_NUMBERS:
                        if (row[0], place) in TEXTS and isinstance(thing, str):
                            continue
                        if (row[0], place, thing) == ("sent", 5, None):
                            continue
                        self.no(altered(way, at, altered(row, place, thing)))
                self.no(altered(way, at, row + (0,)))
                self.no(altered(way, at, row[:-1]))

    def test_begins_with_its_only_sent(self):
        for way in WAYS:
            self.no(way[1:])
            self.no(way + way[:1])
            self.no(way[:1] + way)
            if len(way) > 1:
                self.no(way[1:] + way[:1])
                self.no(way[::-1])
        self.no(())

    def test_rows_that_are_of_no_letter(self):
        for row in (("came", 9, 2, 3, "hand"), ("went", 9, 2, 3), ("sends", 9, 2, 3), ("SENT",) + TO_ALL[0][1:]):
            self.no(TO_ALL + (row,))

    def test_all_of_one_letter(self):
        places = {"sent": (2, 3, 4), "heard": (2, 4, 5), "wrapped": (2, 4, 6), "dropped": (3, 5, 6), "passed": (3, 4, 5)}
        for way in (TO_ALL, TO_ONE, UNKNOWN):
            for at, row in enumerate(way):
                for place in places[row[0]]:
                    self.no(altered(way, at, altered(row, place, row[place] + 1)))

    def test_what_else_a_passed_tells_is_free(self):
        row = TO_ONE[3]
        for place in (2, 6, 7, 8):
            self.yes(altered(TO_ONE, 3, altered(row, place, 77)))

    def test_beats_do_not_fall(self):
        for way in (TO_ALL, TO_ONE, UNKNOWN):
            for at in range(1, len(way)):
                row = way[at]
                self.yes(altered(way, at, altered(row, 1, way[at - 1][1])))
                if way[at - 1][1] > 0:
                    self.no(altered(way, at, altered(row, 1, way[at - 1][1] - 1)))
            later = way[:-1] + (altered(way[-1], 1, 10 ** 20),)
            self.yes(later)

    def test_kinds(self):
        for kind in ("h", "t", "L", "", "lu", "x"):
            self.no(altered(TO_ALL, 2, altered(TO_ALL[2], 3, kind)))
            self.no(altered(TO_ALL, 7, altered(TO_ALL[7], 4, kind)))
        for kind in ("l", "u", "a", "f"):
            self.yes(altered(TO_ALL, 7, altered(TO_ALL[7], 4, kind)))
        for kind in ("l", "u"):
            self.yes(altered(TO_ALL, 2, altered(TO_ALL[2], 3, kind)))

    def test_wrapped_from_one_place(self):
        self.no(altered(TO_ALL, 2, altered(TO_ALL[2], 7, 5)))
        self.no(altered(TO_ALL, 3, altered(TO_ALL[3], 7, 5)))
        # a later one too, behind what was led on
        self.yes(TO_ALL + (("wrapped", 9, 2, "l", 3, 0, 1, 1, 4, 0),))
        self.no(TO_ALL + (("wrapped", 9, 2, "l", 3, 0, 1, 2, 4, 0),))
        both = altered(altered(TO_ALL, 2, altered(TO_ALL[2], 7, 5)), 3, altered(TO_ALL[3], 7, 5))
        self.yes(both)

    def test_led_on_from_where_an_earlier_one_went(self):
        led = ("wrapped", 7, 2, "f", 3, 6, 1)
        start = TO_ALL[:5]
        # to 0 and to 2 went such of count 3
        for place in range(5):
            for count in range(COUNT):
                told = is_way(start + (led + (place, 3, count),))
                self.assertIs(told, place in (0, 2) and count < 3)
        # from 3 only behind the one that went there, and with a lesser count
        there = start + (led + (2, 3, 1),)
        for count in range(COUNT):
            self.assertIs(is_way(there + (led + (3, 0, count),)), count < 1)
        self.no(start + (led + (3, 0, 0), led + (2, 3, 1)))

    def test_led_on_from_one_of_several(self):
        led = ("wrapped", 7, 2, "f", 3, 6, 1)
        way = TO_ALL[:5] + (led + (0, 2, 0), led + (2, 4, 2))
        self.yes(way)
        self.yes(way + (led + (4, 0, 1),))

    def test_counts(self):
        for count, told in ((0, True), (COUNT - 1, True), (COUNT, False), (10 ** 9, False)):
            self.assertIs(is_way(altered(TO_ONE, 1, altered(TO_ONE[1], 9, count))), told)

    def test_heard(self):
        # another text, another hand, the sender of what is sent to all
        self.no(altered(TO_ONE, 2, altered(TO_ONE[2], 6, ".x")))
        self.no(altered(TO_ONE, 2, altered(TO_ONE[2], 3, 8)))
        self.no(altered(TO_ALL, 1, altered(TO_ALL[1], 3, 3)))
        self.yes(altered(TO_ALL, 1, altered(TO_ALL[1], 3, 99)))
        self.yes((("sent", 0, 0, 3, 1, 3, "any"), ("heard", 0, 0, 3, 3, 1, "any")))
        self.yes(TO_ALL[:1] + TO_ALL[1:2] * 3)

    def test_rows_out_and_twice(self):
        # out: all but the sent and what others went on from
        needed = {3, 5}
        for at in range(1, len(TO_ALL)):
            self.assertIs(is_way(TO_ALL[:at] + TO_ALL[at + 1:]), at not in needed)
            self.yes(TO_ALL[:at + 1] + TO_ALL[at:])

    def test_drawn_changes_tell_a_truth_and_nothing_else(self):
        source = random.Random(32)
        told = {True: 0, False: 0}
        for ground in grounds(source, 4):
            world, stood, kinds = run(source, ground, 150)
            ways = [way_of(world, *row[2:5]) for row in world.log() if row[0] == "sent"]
            for way in ways:
                at, other = source.randrange(len(way)), source.choice(ways)
                row = way[at]
                place = source.randrange(len(row))
                changed = source.choice((
                    altered(way, at, altered(row, place, source.choice(ANYTHING))), way[:at] + way[at + 1:],
                    altered(way, at, altered(row, place, source.randrange(5))), altered(way, at, source.choice(other)),
                    way + other, way[:at + 1] + way[at:], way[::-1], [way], {"way": way}, way[0], (way,),
                ))
                found = is_way(changed)
                self.assertIn(found, (True, False))
                self.assertIs(type(found), bool)
                self.assertIs(found, judged_way(changed))
                told[found] += 1
        self.assertGreater(min(told.values()), 50)


def judged_way(thing):
    """The judge of [28], written once more."""
    def whole(part):
        return type(part) is int and part >= 0

    forms = {"sent": "nnnnat", "wrapped": "nnknnnnnc", "heard": "nnnnnt", "dropped": "ntnknn", "passed": "nnnnnnnn"}
    looks = {
        "n": whole, "a": lambda part: part is None or whole(part), "t": lambda part: type(part) is str,
        "k": lambda part: part in ("l", "u", "a", "f"), "c": lambda part: whole(part) and part <= 3,
    }
    if type(thing) is not tuple or not thing:
        return False
    for row in thing:
        if type(row) is not tuple or not row or type(row[0]) is not str or row[0] not in forms:
            return False
        if len(row) != len(forms[row[0]]) + 1 or not all(looks[k](part) for k, part in zip(forms[row[0]], row[1:])):
            return False
    if [row[0] == "sent" for row in thing] != [True] + [False] * (len(thing) - 1):
        return False
    word, beat, room, sender, number, hearer, text = thing[0]
    at = {"sent": (2, 3, 4), "heard": (2, 4, 5), "wrapped": (2, 4, 6), "dropped": (3, 5, 6), "passed": (3, 4, 5)}
    for row in thing:
        if tuple(row[k] for k in at[row[0]]) != (room, sender, number) or row[1] < beat:
            return False
        beat = row[1]
        if row[0] == "heard" and (row[6] != text or not (row[3] == hearer or hearer is None and row[3] != sender)):
            return False
    wraps = [row for row in thing if row[0] == "wrapped"]
    for k, row in enumerate(wraps):
        if row[3] == "f" and not [1 for ahead in wraps[:k] if ahead[8] == row[7] and ahead[9] > row[9]]:
            return False
    return len({row[7] for row in wraps if row[3] != "f"}) < 2


if __name__ == "__main__":
    unittest.main()
