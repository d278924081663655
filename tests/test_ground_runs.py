"""Whole runs of grounds: laid beside a ground written once more, and judged by what the document promises of all."""

import random
import unittest

from tests.plain_ground import PlainGround
from tests.samples import FULLEST, KITE, LONG_LINE, NARROW_AND_WIDE, SQUARE, random_ground
from tests.test_ground import seen, text_of
from wrapnets.bounds import DELAY, HOPS, JOIN, WEAVE
from wrapnets.errors import BadWeave, NoRoad
from wrapnets.fars import is_settled
from wrapnets.ground import Ground

REST = HOPS * DELAY + JOIN + 1
WORDS = ("lose", "double", "hold")


def random_weave(source, ground, share):
    chosen = [row[0] for row in ground.frames() if source.random() < share]
    return tuple((number, source.choice(WORDS)) for number in chosen[:WEAVE])


def random_deed(source, ground, often):
    """A deed's name and what it is handed, right ones alone; more falls where often is greater."""
    houses, roads, up, fars = ground.told()
    word = source.random()
    if word < 0.35 and houses > 1:
        start, end = source.sample(range(houses), 2)
        text = "".join(source.choice("abc.:! ") for sign in range(source.choice((1, 5, 16, 17, 40, 80, 81, 130))))
        return "send", (start, end, text)
    if word < 0.35 + often and roads:
        at = source.randrange(len(roads))
        pair = roads[at][:2] if source.random() < 0.5 else roads[at][1::-1]
        return "fall" if up[at] else "rise", pair
    return "step", (random_weave(source, ground, source.choice((0, 0.1, 0.4))),)


def deeds_done(source, ground, many, often):
    """Does so many deeds, one at each turn of the loop over it: each as (name, handed, told)."""
    for deed in range(many):
        name, handed = random_deed(source, ground, often)
        yield name, handed, getattr(ground, name)(*handed)


def grounds(source, many):
    return [SQUARE, KITE, LONG_LINE, FULLEST, NARROW_AND_WIDE] + [random_ground(source) for k in range(many)]


class RunTest(unittest.TestCase):
    def test_as_a_plain_ground_does(self):
        source = random.Random(9)
        whys = set()
        for houses, roads in grounds(source, 60):
            ground, plain = Ground(houses, roads), PlainGround(houses, roads)
            for many in range(60):
                name, handed = random_deed(source, ground, source.choice((0.05, 0.2)))
                self.assertEqual(getattr(ground, name)(*handed), getattr(plain, name)(*handed))
                self.assertEqual(seen(ground), plain.seen())
            whys |= {row[1] for row in ground.drops()}
        self.assertEqual(whys, {"hops", "noway", "lost", "fallen", "broken"})

    def test_each_letter_came_whole_or_a_drop_of_it_is_told(self):
        source = random.Random(12)
        came_whole = told_dropped = 0
        for houses, roads in grounds(source, 40):
            ground = Ground(houses, roads)
            sent, came = {}, []
            for name, handed, told in deeds_done(source, ground, 50, 0.1):
                if name == "send":
                    sent[told] = (told,) + handed
                came += told if name == "step" else ()
                there = {row[0] for row in ground.letters()}
                for number in set(sent) - there - {row[0] for row in came}:
                    self.assertIn(number, {letter for beat, why, letter in ground.drops()})
            for beat in range(REST):
                came += ground.step(())
            self.assertEqual((ground.frames(), ground.heaps(), ground.letters()), ((), (), ()))
            for letter in came:
                self.assertEqual(letter, sent[letter[0]])
            whole, lost = {row[0] for row in came}, {row[2] for row in ground.drops()}
            self.assertEqual(whole | lost, set(sent))
            came_whole += len(whole)
            told_dropped += len(lost)
        self.assertGreater(came_whole, 200)
        self.assertGreater(told_dropped, 200)

    def test_with_empty_weaves_on_settled_grounds_nothing_is_lost(self):
        source = random.Random(3)
        for houses, roads in grounds(source, 30):
            ground = Ground(houses, roads)
            sent = []
            for start in range(houses):
                for end in range(houses):
                    # more roads than there are hops would be too many
                    if start != end and ground.told()[3][start][end] <= HOPS:
                        text = text_of(source.randint(1, 130))
                        sent.append((ground.send(start, end, text), start, end, text))
            came = []
            for beat in range(REST):
                came += ground.step(())
            self.assertEqual(sorted(came), sent)
            self.assertEqual(ground.drops(), ())

    def test_quiet_within_so_many_beats_from_wherever(self):
        source = random.Random(4)
        for houses, roads in grounds(source, 40):
            ground = Ground(houses, roads)
            list(deeds_done(source, ground, source.randint(5, 40), 0.3))
            for beat in range(REST):
                ground.step(())
            self.assertEqual((ground.frames(), ground.heaps(), ground.letters()), ((), (), ()))

    def test_hops_fall_at_each_road(self):
        source = random.Random(5)
        for houses, roads in grounds(source, 20):
            ground = Ground(houses, roads)
            for many in range(60):
                name, handed = random_deed(source, ground, 0.2)
                ahead = {row[0]: row for row in ground.frames()}
                getattr(ground, name)(*handed)
                for row in ground.frames():
                    self.assertIn(row[4], range(HOPS))
                    self.assertIn(row[7], range(1, DELAY + 1))
                    old = ahead.get(row[0])
                    if old is not None and old[5:7] != row[5:7]:
                        self.assertEqual(row[4], old[4] - 1)
                    elif old is not None:
                        self.assertEqual(row[:7], old[:7])

    def test_frames_fit_their_roads_and_stand_in_their_texts(self):
        source = random.Random(6)
        for houses, roads in grounds(source, 20):
            ground = Ground(houses, roads)
            sizes = {pair: row[3] for row in roads for pair in (row[:2], row[1::-1])}
            for deed in deeds_done(source, ground, 60, 0.1):
                texts = {row[0]: row[3] for row in ground.letters()}
                for number, letter, first, signs, hops, start, end, left in ground.frames():
                    self.assertIn(len(signs), range(1, sizes[start, end] + 1))
                    self.assertEqual(texts[letter][first:first + len(signs)], signs)

    def test_fars_are_settled_again_behind_many_beats(self):
        source = random.Random(7)
        for houses, roads in grounds(source, 20):
            ground = Ground(houses, roads)
            list(deeds_done(source, ground, 20, 0.6))
            for beat in range(40):
                ground.step(())
            self.assertIs(is_settled(*ground.told()), True)

    def test_the_same_deeds_tell_the_same(self):
        for number in range(10):
            told = []
            for twice in range(2):
                ground = Ground(*FULLEST)
                told.append([(deed, seen(ground)) for deed in deeds_done(random.Random(number), ground, 60, 0.1)])
            self.assertEqual(told[0], told[1])

    def test_copies_go_on_alike_and_by_themselves(self):
        source = random.Random(8)
        for houses, roads in grounds(source, 20):
            ground = Ground(houses, roads)
            list(deeds_done(source, ground, 30, 0.1))
            other, third = ground.copy(), ground.copy()
            ahead = seen(ground)
            for name, handed, told in deeds_done(source, other, 30, 0.1):
                self.assertEqual(getattr(third, name)(*handed), told)
                self.assertEqual(seen(other), seen(third))
                self.assertEqual(seen(ground), ahead)

    def test_what_is_refused_leaves_all_as_it_was(self):
        source = random.Random(10)
        for houses, roads in grounds(source, 10):
            ground, plain = Ground(houses, roads), PlainGround(houses, roads)
            for many in range(40):
                name, handed = random_deed(source, ground, 0.1)
                self.assertRaises(BadWeave, ground.step, random_weave(source, ground, 0.3) + ((-1, "hold"),))
                self.assertRaises(BadWeave, ground.step, list(random_weave(source, ground, 0.3)))
                self.assertRaises(NoRoad, ground.fall, houses, 0)
                self.assertRaises(NoRoad, ground.rise, [0], None)
                self.assertEqual(getattr(ground, name)(*handed), getattr(plain, name)(*handed))
                self.assertEqual(seen(ground), plain.seen())
