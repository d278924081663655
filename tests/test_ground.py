"""The ground: letters, frames, heaps, weaves, falls, by small cases worked out by hand."""

import copy
import unittest

from tests.samples import ANYTHING, GROUNDS, LINE, SQUARE, altered
from tests.test_roads import WRONG
from wrapnets.bounds import HOPS, JOIN, WEAVE
from wrapnets.errors import BadGround, BadWeave, NetError, NoRoad, Same
from wrapnets.fars import far_paper
from wrapnets.ground import Ground

ASKED = ("frames", "letters", "heaps", "beat", "drops", "told", "houses", "made")
# Wide, then narrow, then wide again.
NARROWING = (4, ((0, 1, 2, 40), (1, 2, 1, 16), (2, 3, 2, 80)))
PAIR = (2, ((0, 1, 1, 16),))
SLOW_PAIR = (2, ((0, 1, 2, 16),))


def seen(ground):
    return {name: getattr(ground, name)() for name in ASKED}


def text_of(many):
    return "".join([chr(97 + at % 26) for at in range(many)])


def depths(thing):
    """Each thing in what was told that isn't a number, a text or None."""
    if not isinstance(thing, (int, str)) and thing is not None:
        yield thing
        for part in thing:
            yield from depths(part)


class GroundCase(unittest.TestCase):
    def steps(self, ground, many):
        for beat in range(many):
            self.assertEqual(ground.step(()), ())

    def whys(self, ground):
        return [why for beat, why, letter in ground.drops()]


class NewGroundTest(GroundCase):
    def test_at_first(self):
        for houses, roads in GROUNDS:
            up = (True,) * len(roads)
            self.assertEqual(seen(Ground(houses, roads)), {
                "frames": (), "letters": (), "heaps": (), "beat": 0, "drops": (), "houses": houses, "made": (0, 0),
                "told": (houses, roads, up, far_paper(houses, roads, up)),
            })

    def test_wrong_grounds(self):
        for houses, roads, at in WRONG:
            with self.subTest((houses, roads)):
                ahead = copy.deepcopy((houses, roads))
                with self.assertRaises(BadGround) as caught:
                    Ground(houses, roads)
                self.assertEqual(caught.exception.at, at)
                self.assertEqual((houses, roads), ahead)

    def test_anything_as_houses_and_as_roads(self):
        for thing in ANYTHING:
            self.assertRaises(BadGround, Ground, thing, ())
            self.assertRaises(BadGround, Ground, thing, thing)
            if thing != ():
                self.assertRaises(BadGround, Ground, 3, thing)

    def test_methods_are_the_classes_own(self):
        for name in ASKED + ("send", "step", "fall", "rise", "copy"):
            self.assertIn(name, vars(Ground))


class SendTest(GroundCase):
    def test_numbers_of_letters_and_frames(self):
        ground = Ground(*LINE)
        self.assertEqual(ground.send(0, 2, "a"), 0)
        self.assertEqual(ground.send(2, 0, "b"), 1)
        self.assertEqual(ground.send(0, 1, "c"), 2)
        self.assertEqual(ground.made(), (3, 3))
        self.assertEqual(ground.frames(), (
            (0, 0, 0, "a", HOPS - 1, 0, 1, 1), (1, 1, 0, "b", HOPS - 1, 2, 1, 1), (2, 2, 0, "c", HOPS - 1, 0, 1, 1),
        ))
        self.assertEqual(ground.letters(), ((0, 0, 2, "a"), (1, 2, 0, "b"), (2, 0, 1, "c")))
        self.assertEqual((ground.beat(), ground.heaps(), ground.drops()), (0, (), ()))

    def test_cut_at_the_first_road(self):
        ground = Ground(*NARROWING)
        text = text_of(85)
        ground.send(0, 3, "x")
        self.assertEqual(ground.send(0, 3, text), 1)
        self.assertEqual(ground.frames(), (
            (0, 0, 0, "x", 7, 0, 1, 2), (1, 1, 0, text[:40], 7, 0, 1, 2), (2, 1, 40, text[40:80], 7, 0, 1, 2),
            (3, 1, 80, text[80:], 7, 0, 1, 2),
        ))
        self.assertEqual(ground.made(), (2, 4))
        ground.send(3, 0, "y")
        self.assertEqual(ground.frames()[4], (4, 2, 0, "y", 7, 3, 2, 2))

    def test_cut_where_it_is_longer_than_the_road_is_wide(self):
        for many, parts in ((15, 1), (16, 1), (17, 2), (32, 2), (33, 3), (160, 10)):
            ground = Ground(*PAIR)
            ground.send(0, 1, text_of(many))
            self.assertEqual(ground.made(), (1, parts))
            self.assertEqual("".join(row[3] for row in ground.frames()), text_of(many))
            self.assertEqual([row[2] for row in ground.frames()], list(range(0, many, 16)))

    def test_no_way(self):
        ground = Ground(3, ((0, 1, 1, 16),))
        self.assertEqual(ground.send(0, 2, text_of(40)), 0)
        self.assertEqual(seen(ground)["frames"], ())
        self.assertEqual(ground.letters(), ())
        self.assertEqual(ground.drops(), ((0, "noway", 0),))
        self.assertEqual(ground.made(), (1, 1))
        ground.step(())
        self.assertEqual(ground.send(0, 1, "a"), 1)
        self.assertEqual(ground.frames(), ((1, 1, 0, "a", 7, 0, 1, 1),))
        ground.send(2, 0, "b")
        self.assertEqual(ground.drops(), ((0, "noway", 0), (1, "noway", 2)))
        self.assertEqual(ground.made(), (3, 3))

    def test_over_roads_that_are_up(self):
        ground = Ground(*SQUARE)
        ground.fall(0, 1)
        ground.send(0, 3, "a")
        self.assertEqual(ground.frames(), ((0, 0, 0, "a", 7, 0, 2, 1),))
        ground.fall(2, 0)
        ground.send(0, 3, "b")
        self.assertEqual(ground.drops(), ((0, "fallen", 0), (0, "noway", 1)))


class StepTest(GroundCase):
    def test_a_letter_over_one_road(self):
        ground = Ground(*SLOW_PAIR)
        ground.send(1, 0, "abc")
        self.assertEqual(ground.step(()), ())
        self.assertEqual(ground.frames(), ((0, 0, 0, "abc", 7, 1, 0, 1),))
        self.assertEqual(ground.step(()), ((0, 1, 0, "abc"),))
        self.assertEqual((ground.frames(), ground.letters(), ground.heaps(), ground.drops()), ((), (), (), ()))
        self.assertEqual((ground.beat(), ground.made()), (2, (1, 1)))
        self.assertEqual(ground.step(()), ())

    def test_a_letter_goes_on_and_is_cut_again(self):
        ground = Ground(*NARROWING)
        text = text_of(50)
        ground.send(0, 3, text)
        self.steps(ground, 1)
        self.assertEqual(ground.frames(), ((0, 0, 0, text[:40], 7, 0, 1, 1), (1, 0, 40, text[40:], 7, 0, 1, 1)))
        self.steps(ground, 1)
        # cut frame by frame, so the parts of the first one have the next numbers
        self.assertEqual(ground.frames(), (
            (0, 0, 0, text[:16], 6, 1, 2, 1), (1, 0, 40, text[40:], 6, 1, 2, 1), (2, 0, 16, text[16:32], 6, 1, 2, 1),
            (3, 0, 32, text[32:40], 6, 1, 2, 1),
        ))
        self.steps(ground, 1)
        self.assertEqual([row[4:] for row in ground.frames()], [(5, 2, 3, 2)] * 4)
        self.assertEqual([row[3] for row in ground.frames()], [text[:16], text[40:], text[16:32], text[32:40]])
        self.steps(ground, 1)
        self.assertEqual(ground.letters(), ((0, 0, 3, text),))
        self.assertEqual(ground.step(()), ((0, 0, 3, text),))
        self.assertEqual((ground.frames(), ground.letters(), ground.heaps(), ground.drops()), ((), (), (), ()))
        self.assertEqual((ground.beat(), ground.made()), (5, (1, 4)))

    def test_letters_in_the_order_in_which_they_came_whole(self):
        ground = Ground(3, ((0, 1, 2, 16), (1, 2, 1, 16)))
        ground.send(0, 1, text_of(17))
        ground.step(())
        ground.send(2, 1, "b")
        self.assertEqual(ground.step(()), ((0, 0, 1, text_of(17)), (1, 2, 1, "b")))
        ground = Ground(*SLOW_PAIR)
        ground.send(0, 1, "a")
        ground.send(0, 1, "b")
        ground.step(((0, "double"), (1, "hold")))
        ground.step(((0, "lose"),))
        # frame 1 is of letter 1, frame 2 is the double of frame 0
        self.assertEqual(ground.step(()), ((1, 0, 1, "b"), (0, 0, 1, "a")))

    def test_lose(self):
        ground = Ground(*SLOW_PAIR)
        ground.send(0, 1, text_of(20))
        ground.send(0, 1, "b")
        self.assertEqual(ground.step(((1, "lose"),)), ())
        self.assertEqual([row[0] for row in ground.frames()], [0, 2])
        self.assertEqual(ground.drops(), ((1, "lost", 0),))
        self.assertEqual(ground.step(((0, "lose"),)), ((1, 0, 1, "b"),))
        self.assertEqual(ground.drops(), ((1, "lost", 0), (2, "lost", 0)))
        self.assertEqual((ground.frames(), ground.letters(), ground.heaps()), ((), (), ()))

    def test_hold(self):
        ground = Ground(*SLOW_PAIR)
        ground.send(0, 1, "a")
        for beat in range(5):
            ground.step(((0, "hold"),))
            self.assertEqual(ground.frames(), ((0, 0, 0, "a", 7, 0, 1, 2),))
        self.assertEqual(ground.beat(), 5)
        ground.step(())
        ground.step(((0, "hold"),))
        self.assertEqual(ground.frames(), ((0, 0, 0, "a", 7, 0, 1, 1),))
        self.assertEqual(ground.step(()), ((0, 0, 1, "a"),))

    def test_double_is_as_it_was_ahead_of_the_beat(self):
        ground = Ground(*SLOW_PAIR)
        ground.send(0, 1, "a")
        self.assertEqual(ground.step(((0, "double"),)), ())
        self.assertEqual(ground.frames(), ((0, 0, 0, "a", 7, 0, 1, 1), (1, 0, 0, "a", 7, 0, 1, 2)))
        self.assertEqual(ground.made(), (1, 2))
        # the double came of its own, and a letter that was whole is told once more
        self.assertEqual(ground.step(()), ((0, 0, 1, "a"),))
        self.assertEqual(ground.frames(), ((1, 0, 0, "a", 7, 0, 1, 1),))
        self.assertEqual(ground.letters(), ((0, 0, 1, "a"),))
        self.assertEqual(ground.step(()), ((0, 0, 1, "a"),))
        self.assertEqual((ground.letters(), ground.drops()), ((), ()))

    def test_double_of_one_that_comes_to_its_end(self):
        ground = Ground(*PAIR)
        ground.send(0, 1, "a")
        self.assertEqual(ground.step(((0, "double"),)), ((0, 0, 1, "a"),))
        self.assertEqual(ground.frames(), ((1, 0, 0, "a", 7, 0, 1, 1),))
        self.assertEqual(ground.step(((1, "double"),)), ((0, 0, 1, "a"),))
        self.assertEqual(ground.frames(), ((2, 0, 0, "a", 7, 0, 1, 1),))

    def test_double_has_its_number_ahead_of_the_parts_that_are_cut(self):
        ground = Ground(3, ((0, 1, 1, 40), (1, 2, 1, 16)))
        text = text_of(20)
        ground.send(0, 2, text)
        ground.step(((0, "double"),))
        self.assertEqual(ground.frames(), (
            (0, 0, 0, text[:16], 6, 1, 2, 1), (1, 0, 0, text, 7, 0, 1, 1), (2, 0, 16, text[16:], 6, 1, 2, 1),
        ))
        self.assertEqual(ground.step(()), ((0, 0, 2, text),))
        self.assertEqual(ground.frames(), ((1, 0, 0, text[:16], 6, 1, 2, 1), (3, 0, 16, text[16:], 6, 1, 2, 1)))
        self.assertEqual(ground.step(()), ((0, 0, 2, text),))

    def test_whole_twice_in_one_beat(self):
        ground = Ground(*SLOW_PAIR)
        ground.send(0, 1, "a")
        ground.step(((0, "double"),))
        ground.step(((0, "hold"),))
        self.assertEqual(ground.step(()), ((0, 0, 1, "a"), (0, 0, 1, "a")))

    def test_all_words_in_one_weave(self):
        ground = Ground(*SLOW_PAIR)
        for sign in "abcd":
            ground.send(0, 1, sign)
        ground.step(((0, "lose"), (1, "double"), (3, "hold")))
        self.assertEqual(ground.frames(), (
            (1, 1, 0, "b", 7, 0, 1, 1), (2, 2, 0, "c", 7, 0, 1, 1), (3, 3, 0, "d", 7, 0, 1, 2),
            (4, 1, 0, "b", 7, 0, 1, 2),
        ))
        self.assertEqual(ground.drops(), ((1, "lost", 0),))

    def test_two_doubles_by_rising_numbers(self):
        ground = Ground(*SLOW_PAIR)
        ground.send(0, 1, "a")
        ground.send(1, 0, "b")
        ground.step(((0, "double"), (1, "double")))
        self.assertEqual([row[:2] for row in ground.frames()], [(0, 0), (1, 1), (2, 0), (3, 1)])

    def test_hops(self):
        ground = Ground(*LINE)
        ground.send(0, 2, "a")
        # with the last road fallen each time that it comes near, it goes to and fro till its hops are done
        ground.fall(1, 2)
        hops = []
        while ground.frames():
            hops.append(ground.frames()[0][4:7])
            self.assertEqual(ground.step(()), ())
        self.assertEqual(hops, [(7 - k, k % 2, (k + 1) % 2) for k in range(8)])
        self.assertEqual(ground.drops(), ((8, "hops", 0),))
        self.assertEqual((ground.letters(), ground.heaps()), ((), ()))

    def test_a_frame_without_hops_is_joined_at_its_last_house(self):
        ground = Ground(*LINE)
        ground.fall(1, 2)
        ground.send(0, 2, "a")
        for beat in range(6):
            self.assertEqual(ground.step(()), ())
        ground.rise(1, 2)
        self.assertEqual(ground.frames()[0][4:], (1, 0, 1, 1))
        ground.step(())
        self.assertEqual(ground.frames(), ((0, 0, 0, "a", 0, 1, 2, 1),))
        self.assertEqual(ground.step(()), ((0, 0, 2, "a"),))
        self.assertEqual(ground.drops(), ())

    def test_noway_on_the_way(self):
        ground = Ground(3, ((0, 1, 1, 16), (1, 2, 1, 16)))
        ground.send(0, 2, text_of(17))
        # house 1 has no road that is up but that to 0, whose far is counted up by turns
        ground.fall(1, 2)
        ground.step(((0, "hold"), (1, "hold")))
        for beat in range(21):
            ground.step(((0, "hold"), (1, "hold")))
        self.assertEqual(ground.drops(), ())
        ground.step(())
        self.assertEqual(ground.drops(), ((23, "noway", 0), (23, "noway", 0)))
        self.assertEqual((ground.frames(), ground.letters()), ((), ()))

    def test_fars_turn_behind_the_frames(self):
        ground = Ground(*SQUARE)
        ground.fall(0, 1)
        self.assertEqual(ground.told()[3][0], (0, 1, 1, 2))
        ground.send(3, 0, "a")
        # by the fars of that beat 1 is as near as 2, though the road from 1 to 0 fell
        self.assertEqual(ground.frames()[0][5:7], (3, 1))
        ground.step(())
        self.assertEqual(ground.told()[3], ((0, 3, 1, 2), (3, 0, 2, 1), (1, 2, 0, 1), (2, 1, 1, 0)))
        # it was put on its road by what house 1 knew ahead of the turn
        self.assertEqual(ground.frames()[0][5:7], (1, 3))
        ground.step(())
        self.assertEqual(ground.frames()[0][5:7], (3, 2))
        ground.rise(0, 1)
        self.assertEqual(ground.told()[2:], ((True,) * 4, ((0, 3, 1, 2), (3, 0, 2, 1), (1, 2, 0, 1), (2, 1, 1, 0))))
        ground.step(())
        self.assertEqual(ground.told()[3], far_paper(*SQUARE, (True,) * 4))

    def test_a_frame_at_a_house_goes_by_the_fars_ahead_of_the_turn(self):
        ground = Ground(3, ((0, 1, 1, 16), (1, 2, 1, 16)))
        ground.fall(1, 2)
        for beat in range(30):
            ground.step(())
        ground.rise(1, 2)
        ground.send(0, 2, "a")
        self.assertEqual(ground.drops(), ((30, "noway", 0),))
        ground.step(())
        ground.send(0, 2, "b")
        self.assertEqual(ground.frames(), ((1, 1, 0, "b", 7, 0, 1, 1),))


class HeapsTest(GroundCase):
    def test_parts_are_joined_in_any_order(self):
        ground = Ground(*PAIR)
        text = text_of(40)
        ground.send(0, 1, text)
        self.assertEqual(ground.step(((0, "hold"), (1, "hold"))), ())
        self.assertEqual(ground.heaps(), ((0, 1, tuple(range(32, 40))),))
        self.assertEqual(ground.letters(), ((0, 0, 1, text),))
        self.assertEqual(ground.step(((1, "hold"),)), ())
        self.assertEqual(ground.heaps(), ((0, 1, tuple(range(16)) + tuple(range(32, 40))),))
        self.assertEqual(ground.step(()), ((0, 0, 1, text),))
        self.assertEqual((ground.heaps(), ground.letters(), ground.drops()), ((), (), ()))

    def test_broken_behind_join_beats(self):
        ground = Ground(*PAIR)
        ground.send(0, 1, text_of(17))
        ground.step(((1, "lose"),))
        for beat in range(1, 1 + JOIN):
            self.assertEqual(ground.beat(), beat)
            self.assertEqual(ground.heaps(), ((0, 1, tuple(range(16))),))
            self.assertEqual(ground.letters(), ((0, 0, 1, text_of(17)),))
            ground.step(())
        self.assertEqual((ground.beat(), ground.heaps(), ground.letters()), (1 + JOIN, (), ()))
        self.assertEqual(ground.drops(), ((1, "lost", 0), (1 + JOIN, "broken", 0)))

    def test_the_first_part_counts_not_the_last(self):
        ground = Ground(*PAIR)
        ground.send(0, 1, text_of(33))
        ground.step(((0, "hold"), (2, "hold")))
        for beat in range(JOIN - 2):
            ground.step(((0, "hold"), (2, "hold")))
        ground.step(((2, "hold"),))
        self.assertEqual(ground.heaps(), ((0, 1, tuple(range(32))),))
        ground.step(((2, "hold"),))
        self.assertEqual(ground.drops(), ((1 + JOIN, "broken", 0),))
        # the part that was held begins a heap anew
        ground.step(())
        self.assertEqual(ground.heaps(), ((0, 2 + JOIN, (32,)),))

    def test_whole_in_the_very_beat_in_which_it_would_be_broken(self):
        ground = Ground(*PAIR)
        ground.send(0, 1, text_of(17))
        for beat in range(JOIN):
            ground.step(((1, "hold"),))
        self.assertEqual(ground.step(()), ((0, 0, 1, text_of(17)),))
        self.assertEqual((ground.beat(), ground.drops()), (1 + JOIN, ()))

    def test_a_heap_begins_anew_behind_a_letter_that_was_whole(self):
        ground = Ground(*PAIR)
        ground.send(0, 1, text_of(17))
        self.assertEqual(ground.step(((1, "double"),)), ((0, 0, 1, text_of(17)),))
        self.assertEqual((ground.heaps(), ground.letters()), ((), ((0, 0, 1, text_of(17)),)))
        self.assertEqual(ground.step(()), ())
        self.assertEqual(ground.heaps(), ((0, 2, (16,)),))
        self.assertEqual(ground.letters(), ((0, 0, 1, text_of(17)),))
        self.steps(ground, JOIN)
        self.assertEqual(ground.drops(), ((2 + JOIN, "broken", 0),))

    def test_by_rising_letters_whichever_began_first(self):
        ground = Ground(*PAIR)
        ground.send(0, 1, text_of(17))
        ground.send(0, 1, text_of(17))
        ground.step(((0, "hold"), (1, "hold"), (2, "lose")))
        ground.step(((0, "lose"),))
        self.assertEqual(ground.heaps(), ((0, 2, (16,)), (1, 1, (16,))))
        self.steps(ground, JOIN)
        self.assertEqual(ground.drops()[2:], ((1 + JOIN, "broken", 1), (2 + JOIN, "broken", 0)))

    def test_broken_in_one_beat_by_rising_letters(self):
        ground = Ground(*SLOW_PAIR)
        ground.send(0, 1, text_of(17))
        ground.send(0, 1, text_of(17))
        ground.step(((0, "lose"), (1, "double"), (2, "hold"), (3, "lose")))
        ground.step(((1, "lose"),))
        ground.step(())
        # frame 2 of letter 1 came first, then frame 4 of letter 0
        self.assertEqual(ground.heaps(), ((0, 3, (16,)), (1, 3, tuple(range(16)))))
        self.assertEqual([row[0] for row in ground.letters()], [0, 1])
        self.steps(ground, JOIN)
        self.assertEqual(ground.drops()[3:], ((3 + JOIN, "broken", 0), (3 + JOIN, "broken", 1)))


class DropsFromTest(GroundCase):
    def test_with_the_letters_texts(self):
        ground = Ground(*PAIR)
        ground.send(0, 1, "one")
        ground.send(1, 0, "two")
        self.assertEqual(ground.drops_from(0), ())
        ground.step(((1, "lose"),))
        ground.send(0, 1, "three")
        ground.fall(0, 1)
        self.assertEqual(ground.drops_from(0), ((1, "lost", "two"), (1, "fallen", "three")))
        self.assertEqual(ground.drops_from(1), ((1, "fallen", "three"),))
        self.assertEqual(ground.drops_from(2), ())


class FallTest(GroundCase):
    def test_drops_the_frames_on_it_both_ways(self):
        ground = Ground(*LINE)
        ground.send(2, 0, "a")
        ground.send(1, 0, "b")
        ground.send(0, 2, "c")
        ground.send(0, 1, text_of(17))
        ground.send(1, 2, "e")
        ground.fall(1, 0)
        self.assertEqual([row[0] for row in ground.frames()], [0, 5])
        self.assertEqual(ground.drops(), ((0, "fallen", 1), (0, "fallen", 2), (0, "fallen", 3), (0, "fallen", 3)))
        self.assertEqual([row[0] for row in ground.letters()], [0, 4])
        ground.step(())
        ground.fall(1, 2)
        self.assertEqual(ground.told()[2], (False, False))
        self.assertEqual(ground.made(), (5, 6))

    def test_by_rising_numbers_though_they_were_put_there_in_another_order(self):
        ground = Ground(3, ((0, 1, 2, 16), (1, 2, 1, 16)))
        ground.send(0, 2, "a")
        ground.step(())
        ground.send(1, 2, "b")
        ground.step(((1, "hold"),))
        # frame 1 stood on the road ahead of frame 0
        self.assertEqual([row[:2] + row[5:7] for row in ground.frames()], [(0, 0, 1, 2), (1, 1, 1, 2)])
        ground.fall(1, 2)
        self.assertEqual(ground.drops(), ((2, "fallen", 0), (2, "fallen", 1)))

    def test_heaps_stay(self):
        ground = Ground(*PAIR)
        ground.send(0, 1, text_of(17))
        ground.step(((1, "hold"),))
        ground.fall(0, 1)
        self.assertEqual(ground.drops(), ((1, "fallen", 0),))
        self.assertEqual(ground.heaps(), ((0, 1, tuple(range(16))),))

    def test_rise(self):
        ground = Ground(*PAIR)
        ground.send(0, 1, "a")
        self.assertIsNone(ground.fall(0, 1))
        self.assertIsNone(ground.rise(1, 0))
        self.assertEqual((ground.frames(), ground.told()[2]), ((), (True,)))
        self.assertEqual(ground.send(0, 1, "b"), 1)
        self.assertEqual(ground.step(()), ((1, 0, 1, "b"),))

    def refused(self, kind, deed, ground, *handed):
        ahead = seen(ground), copy.deepcopy(handed)
        with self.assertRaises(kind) as caught:
            deed(*handed)
        self.assertEqual((seen(ground), handed), ahead)
        return caught.exception

    def test_refusals(self):
        ground = Ground(*SQUARE)
        ground.send(0, 3, text_of(17))
        self.refused(Same, ground.rise, ground, 0, 1)
        self.refused(Same, ground.rise, ground, 1, 0)
        for a, b in ((0, 3), (1, 1), (0, 4), (-1, 0), (False, True), (0, True), ("0", "1")):
            for deed in (ground.fall, ground.rise):
                error = self.refused(NoRoad, deed, ground, a, b)
                self.assertIs(error.a, a)
                self.assertIs(error.b, b)
        ground.fall(2, 3)
        self.refused(Same, ground.fall, ground, 2, 3)
        self.refused(Same, ground.fall, ground, 3, 2)

    def test_anything(self):
        ground = Ground(*SQUARE)
        ground.send(0, 3, text_of(17))
        for thing in ANYTHING:
            for deed in (ground.fall, ground.rise):
                for a, b in ((thing, 0), (1, thing), (thing, thing)):
                    error = self.refused(NoRoad, deed, ground, a, b)
                    self.assertIs(error.a, a)
                    self.assertIs(error.b, b)


class WeaveTest(GroundCase):
    def setUp(self):
        self.ground = Ground(*SLOW_PAIR)
        for sign in "abcde":
            self.ground.send(0, 1, sign)
        # frame 2 is there no more
        self.ground.step(((2, "lose"),))

    def refused(self, weave, at):
        ahead = seen(self.ground), copy.deepcopy(weave)
        with self.assertRaises(BadWeave) as caught:
            self.ground.step(weave)
        self.assertEqual(caught.exception.at, at, weave)
        self.assertIs(type(caught.exception.at), type(at))
        self.assertEqual((seen(self.ground), weave), ahead)

    def test_no_tuple(self):
        for weave in ([], [(0, "lose")], None, True, 0, "lose", "", {}, {0: "lose"}, 10 ** 29):
            self.refused(weave, None)
        self.assertTrue(issubclass(BadWeave, NetError))

    def test_more_than_weave_pairs(self):
        ground = self.ground
        for many in range(WEAVE + 3):
            ground.send(0, 1, "x")
        numbers = [row[0] for row in ground.frames()]
        self.refused(tuple((number, "hold") for number in numbers[:WEAVE + 1]), None)
        # of several refusals the one told first
        self.refused(((0, "no"),) * (WEAVE + 1), None)
        self.refused((None,) * (WEAVE + 1), None)
        self.assertEqual(ground.step(tuple((number, "hold") for number in numbers[:WEAVE])), ())
        self.assertEqual(len([row for row in ground.frames() if row[7] == 2]), WEAVE - 4)

    def test_no_pair(self):
        for pair in (None, 0, "0l", "lose", (), (0,), ("lose",), (0, "lose", 1), [0, "lose"], {0: "lose"}, ((0, "lose"),)):
            self.refused((pair,), 0)
            self.refused(((0, "hold"), pair), 1)
            self.refused(((0, "hold"), (1, "lose"), pair, (3, "lose"), None), 2)

    def test_a_frame_that_there_is_not(self):
        for number in (2, 5, 6, -1, -5, 10 ** 29):
            self.refused(((number, "lose"),), 0)
            self.refused(((number, "lose"), (3, "lose")), 0)
        self.refused(((1, "lose"), (2, "lose"), (3, "lose")), 1)
        self.refused(((1, "lose"), (3, "lose"), (5, "lose")), 2)

    def test_not_rising(self):
        self.refused(((0, "lose"), (0, "lose")), 1)
        self.refused(((0, "lose"), (0, "hold")), 1)
        self.refused(((1, "lose"), (0, "hold")), 1)
        self.refused(((0, "lose"), (3, "hold"), (1, "hold")), 2)
        self.refused(((0, "lose"), (3, "hold"), (4, "hold"), (3, "hold"), (3, "no")), 3)

    def test_another_word(self):
        for word in ("", "lost", "Lose", "LOSE", "hold ", " hold", "doubled", None, 0, True, ("lose",), ["lose"], {}):
            self.refused(((0, word),), 0)
            self.refused(((0, "double"), (1, word)), 1)

    def test_truths_are_no_numbers(self):
        self.refused(((False, "lose"),), 0)
        self.refused(((True, "lose"),), 0)
        self.refused(((0, "lose"), (True, "lose")), 1)

    def test_anything(self):
        right = ((0, "lose"), (1, "double"), (3, "hold"))
        for thing in ANYTHING:
            if thing != ():
                self.refused(thing, 0 if isinstance(thing, tuple) and len(thing) <= WEAVE else None)
            for at in range(3):
                self.refused(altered(right, at, thing), at)
                self.refused(altered(right, at, (thing, "lose")), at)
                self.refused(altered(right, at, (right[at][0], thing)), at)
                self.refused(altered(right, at, right[at] + (thing,)), at)

    def test_a_right_one_behind_refusals(self):
        other = self.ground.copy()
        self.refused(((0, "lose"), (0, "lose")), 1)
        self.refused([], None)
        weave = ((0, "lose"), (1, "double"), (3, "hold"))
        self.assertEqual(self.ground.step(weave), other.step(weave))
        self.assertEqual(seen(self.ground), seen(other))

    def test_what_came_of_it(self):
        self.assertEqual(self.ground.step(((0, "lose"), (1, "double"), (3, "hold"))), ((1, 0, 1, "b"), (4, 0, 1, "e")))


class AskedTest(GroundCase):
    def busy(self):
        """A ground with frames, heaps, drops and a road that fell."""
        ground = Ground(*SQUARE)
        ground.send(0, 3, text_of(50))
        ground.send(3, 2, text_of(90))
        ground.step(((4, "hold"), (5, "lose")))
        ground.fall(0, 1)
        ground.send(1, 0, text_of(30))
        ground.step(((4, "hold"),))
        return ground

    def test_there_is_something_of_all(self):
        told = seen(self.busy())
        for name in ("frames", "letters", "heaps", "drops"):
            self.assertTrue(told[name], name)
        self.assertIn(False, told["told"][2])

    def test_tuples_down_to_the_innermost(self):
        ground = self.busy()
        for name, thing in seen(ground).items():
            self.assertEqual({type(part) for part in depths(thing)} - {tuple}, set(), name)
        self.assertEqual({type(state) for state in ground.told()[2]}, {bool})
        came = Ground(*PAIR)
        came.send(0, 1, "a")
        self.assertEqual({type(part) for part in depths(came.step(()))}, {tuple})

    def test_what_was_told_ahead_stays(self):
        ground = self.busy()
        ahead = seen(ground)
        kept = copy.deepcopy(ahead)
        ground.step(((4, "double"),))
        ground.send(0, 2, text_of(40))
        ground.fall(1, 3)
        ground.rise(0, 1)
        ground.step(())
        self.assertEqual(ahead, kept)
        for name in ("frames", "letters", "heaps", "beat", "drops", "told", "made"):
            self.assertNotEqual(seen(ground)[name], ahead[name], name)

    def test_asking_changes_nothing(self):
        ground = self.busy()
        self.assertEqual(seen(ground), seen(ground))
        self.assertEqual(seen(ground), seen(self.busy()))

    def test_a_copy_stands_alike_and_goes_on_by_itself(self):
        ground = self.busy()
        other = ground.copy()
        self.assertIsInstance(other, Ground)
        ahead = seen(ground)
        self.assertEqual(seen(other), ahead)
        self.assertEqual(other.send(0, 2, text_of(40)), ground.made()[0])
        other.step(((4, "double"),))
        other.fall(1, 3)
        other.rise(0, 1)
        other.step(())
        self.assertEqual(seen(ground), ahead)
        later = seen(other)
        for beat in range(12):
            ground.step(())
        ground.fall(0, 2)
        self.assertEqual(seen(other), later)

    def test_heaps_of_a_copy_fill_by_themselves(self):
        ground = Ground(*PAIR)
        ground.send(0, 1, text_of(17))
        ground.step(((1, "hold"),))
        other = ground.copy()
        self.assertEqual(other.step(()), ((0, 0, 1, text_of(17)),))
        self.assertEqual(ground.heaps(), ((0, 1, tuple(range(16))),))
        self.assertEqual(ground.step(((1, "lose"),)), ())
        self.assertEqual((other.heaps(), other.drops()), ((), ()))

    def test_a_copy_with_fars_that_are_not_settled(self):
        ground = Ground(*LINE)
        ground.fall(1, 2)
        ground.step(())
        other = ground.copy()
        self.assertEqual(other.told(), ground.told())
        for beat in range(30):
            self.assertEqual(other.told(), ground.told())
            ground.step(())
            other.step(())
        self.assertEqual(other.told()[3], far_paper(*LINE, (True, False)))
