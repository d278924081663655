"""Rooms of a world: who enters, moves and leaves, what keepers know and edges learn, by cases worked out by hand."""

from tests.world_cases import LINE, PAIR, STAR, WorldCase, world_with
from wrapnets.bounds import ROOMS
from wrapnets.worlds import World


class PutTest(WorldCase):
    def test_numbers_of_rooms(self):
        world = World(*PAIR)
        self.assertEqual(world.put_room("loose", 0), 0)
        self.assertEqual(world.put_room("once", 1), 1)
        world.enter(0, 9, 1)
        self.assertEqual(world.put_room("row", 9, over=0), 2)
        self.assertEqual(world.rooms(), ((0, "loose", None, 0), (1, "once", None, 1), (2, "row", 0, 9)))
        self.assertEqual(world.log()[0], ("came", 0, 0, 9, "hand"))

    def test_numbers_are_never_had_again(self):
        world = World(*PAIR)
        for number in range(ROOMS):
            self.assertEqual(world.put_room("loose", 0), number)
            self.assertIsNone(world.close_room(number))
        self.assertEqual(world.rooms(), ())
        self.assertEqual(world.made(), (ROOMS, 0, 0, 0))

    def test_a_new_room_has_its_keepers_place_alone(self):
        world = World(*PAIR)
        world.put_room("loose", 1)
        self.assertEqual(world.edges(0), (1,))
        self.assertEqual((world.hands(0), world.aliases(0), world.numbers(0)), ((), (), ()))
        self.assertEqual((world.table(0, 1), world.notes(0, 1)), ((), ()))
        self.assertEqual(world.log(), ())
        self.assertEqual(world.frames(), ())


class HereTest(WorldCase):
    def test_at_the_keepers_place(self):
        world = World(*PAIR)
        world.put_room("loose", 0)
        self.assertIsNone(world.enter(0, 3, 0))
        self.assertEqual(world.log(), (("came", 0, 0, 3, "hand"),))
        self.assertEqual(world.hands(0), ((3, 0, 1),))
        self.assertEqual(world.table(0, 0), ())
        self.assertEqual(world.frames(), ())

    def test_elsewhere(self):
        world = World(*PAIR)
        world.put_room("loose", 0)
        world.enter(0, 3, 0)
        world.enter(0, 4, 1)
        self.assertEqual(world.log()[1:], (("came", 0, 0, 4, "hand"), ("wrapped", 0, 0, "h", 4, 1, 0, 1, 0, 3)))
        self.assertEqual(world.letters(), ((0, 1, 0, "0.h.4.1.0.3.0:"),))
        self.assertEqual(world.edges(0), (0, 1))
        self.assertEqual(world.hands(0), ((3, 0, 1), (4, 1, 1)))
        world.step()
        # the keeper learns of 4, and tells it of 3, which is at the keeper's place
        self.assertEqual(world.log()[3:], (("wrapped", 1, 0, "t", 3, 0, 0, 0, 1, 3),))
        self.assertEqual(world.table(0, 0), ((4, 1, 0, 1),))
        self.assertEqual(world.letters(), ((1, 0, 1, "0.t.3.0.0.3.1:"),))
        world.step()
        self.assertEqual(world.table(0, 1), ((3, 0, 0, 2),))
        self.assertEqual((world.frames(), len(world.log())), ((), 4))

    def test_the_keeper_tells_all_edges_and_the_new_one_of_all(self):
        world = world_with(STAR, ("loose", 0, {5: 0, 1: 1, 2: 2, 7: 1}))
        self.assertEqual(world.table(0, 0), ((1, 1, 0, 1), (2, 2, 0, 1), (7, 1, 0, 1)))
        begun, beat = len(world.log()), world.beat()
        world.enter(0, 3, 3)
        world.step()
        self.assertEqual(self.news(world, begun), [
            ("came", beat, 0, 3, "hand"), ("wrapped", beat, 0, "h", 3, 3, 0, 3, 0, 3),
            # to each other edge but that place
            ("wrapped", beat + 1, 0, "t", 3, 3, 0, 0, 1, 3), ("wrapped", beat + 1, 0, "t", 3, 3, 0, 0, 2, 3),
            # to that place of each other one, rising, those at the keeper's place with their counters less one
            ("wrapped", beat + 1, 0, "t", 1, 1, 0, 0, 3, 3), ("wrapped", beat + 1, 0, "t", 2, 2, 0, 0, 3, 3),
            ("wrapped", beat + 1, 0, "t", 5, 0, 0, 0, 3, 3), ("wrapped", beat + 1, 0, "t", 7, 1, 0, 0, 3, 3),
        ])
        world.step()
        self.assertEqual(world.table(0, 3), tuple((hand, place, 0, beat + 2) for hand, place in ((1, 1), (2, 2), (5, 0), (7, 1))))
        self.assertIn((3, 3, 0, beat + 2), world.table(0, 1))
        self.assertIn((3, 3, 0, beat + 2), world.table(0, 2))

    def test_those_at_the_place_told_are_not_told(self):
        world = world_with(PAIR, ("loose", 0, {5: 0, 1: 1}))
        begun, beat = len(world.log()), world.beat()
        world.enter(0, 3, 1)
        world.step()
        # 1 is at the place of 3 itself
        self.assertEqual(self.news(world, begun)[2:], [("wrapped", beat + 1, 0, "t", 5, 0, 0, 0, 1, 3)])

    def test_counters_of_those_that_sent(self):
        world = world_with(PAIR, ("loose", 0, {5: 0}))
        for many in range(4):
            world.send(0, 5, 5, "x")
        world.enter(0, 3, 1)
        world.step()
        # counter 5, so its last news has number 4
        self.assertEqual(world.log()[-1], ("wrapped", 1, 0, "t", 5, 0, 4, 0, 1, 3))
        world.step()
        self.assertEqual(world.table(0, 1), ((5, 0, 4, 2),))

    def test_a_hand_that_left_is_told_as_the_table_has_it(self):
        world = world_with(STAR, ("loose", 0, {1: 1}))
        world.leave(0, 1)
        world.enter(0, 3, 3)
        begun = len(world.log())
        world.step()
        self.assertEqual(self.news(world, begun), [
            ("wrapped", 2, 0, "t", 3, 3, 0, 0, 1, 3), ("wrapped", 2, 0, "t", 1, 1, 0, 0, 3, 3),
        ])

    def test_over_narrow_roads_news_come_in_parts(self):
        world = World(2, ((0, 1, 1, 16),))
        world.put_room("loose", 0)
        world.enter(0, 15, 1)
        for many in range(100):
            world.step()
        world.move(0, 15, 0)
        world.move(0, 15, 1)
        # 0.h.15.1.2.3.100: has 17 signs
        self.assertEqual([row[3] for row in world.frames()], ["0.t.15.0.1.3.100", ":", "0.h.15.1.2.3.100", ":"])


class MoveTest(WorldCase):
    def test_to_its_own_place(self):
        world = world_with(PAIR, ("once", 0, {3: 1}))
        ahead, log = world.view(), world.log()
        self.assertIsNone(world.move(0, 3, 1))
        self.assertEqual((world.view(), world.log()), (ahead, log))
        self.assertEqual(len(world), 3)

    def test_to_another_place(self):
        world = world_with(LINE, ("once", 0, {3: 1}))
        begun, beat = len(world.log()), world.beat()
        self.assertIsNone(world.move(0, 3, 2))
        # the note and the row of the old place, then a here with that same number
        self.assertEqual(world.notes(0, 1), ((3, 2, beat),))
        self.assertEqual(world.table(0, 1), ((3, 2, 1, beat),))
        self.assertEqual(world.hands(0), ((3, 2, 2),))
        self.assertEqual(world.edges(0), (0, 1, 2))
        self.assertEqual(self.news(world, begun), [("wrapped", beat, 0, "h", 3, 2, 1, 2, 0, 3)])
        self.steps(world, 2)
        self.assertEqual(world.table(0, 0), ((3, 2, 1, beat + 2),))
        self.assertEqual(self.news(world, begun)[1:], [("wrapped", beat + 2, 0, "t", 3, 2, 1, 0, 1, 3)])
        world.step()
        self.assertEqual(world.table(0, 1), ((3, 2, 1, beat + 3),))
        self.assertEqual(world.table(0, 2), ())

    def test_to_the_keepers_place_and_back(self):
        world = world_with(PAIR, ("once", 0, {3: 1}))
        beat = world.beat()
        world.move(0, 3, 0)
        self.assertEqual(world.table(0, 0), ())
        self.assertEqual(world.log()[-1], ("wrapped", beat, 0, "t", 3, 0, 1, 0, 1, 3))
        self.assertEqual((world.table(0, 1), world.notes(0, 1)), (((3, 0, 1, beat),), ((3, 0, beat),)))
        world.move(0, 3, 1)
        # back again: what the place knew of it is no more so
        self.assertEqual((world.table(0, 1), world.notes(0, 1)), ((), ()))
        self.assertEqual((world.table(0, 0), world.notes(0, 0)), (((3, 1, 2, beat),), ((3, 1, beat),)))
        world.step()
        # the tell that it is at 0 comes where it is itself, and teaches nothing
        self.assertEqual(world.table(0, 1), ())

    def test_a_here_that_comes_late_teaches_nothing(self):
        world = world_with(LINE, ("loose", 0, {3: 2}))
        beat = world.beat()
        world.move(0, 3, 1)
        first = world.frames()[-1][0]
        world.step(weave=((first, "hold"),))
        world.move(0, 3, 2)
        for held in range(4):
            world.step(weave=((first, "hold"),))
        # the here of number 2 has come, that of number 1 hasn't
        self.assertEqual(world.table(0, 0), ((3, 2, 2, beat + 3),))
        begun = len(world.log())
        world.step()
        self.assertEqual(world.table(0, 0), ((3, 2, 2, beat + 3),))
        # it is told on all the same
        self.assertEqual(self.news(world, begun), [("wrapped", beat + 6, 0, "t", 3, 1, 1, 0, 2, 3)])
        self.settle(world)
        self.assertEqual(world.table(0, 1), ((3, 2, 2, beat + 4),))
        self.assertEqual(world.table(0, 2), ())

    def test_a_here_of_one_that_is_at_the_keepers_place_by_now(self):
        world = world_with(PAIR, ("loose", 0, {3: 0}))
        world.move(0, 3, 1)
        world.move(0, 3, 0)
        world.step()
        self.assertEqual(world.table(0, 0), ())
        self.assertEqual(world.table(0, 1), ((3, 0, 2, 1),))

    def test_the_first_edge_of_a_place(self):
        world = world_with(STAR, ("loose", 0, {3: 1}))
        self.assertRaises(ValueError, world.table, 0, 3)
        world.move(0, 3, 3)
        self.assertEqual(world.edges(0), (0, 1, 3))
        world.move(0, 3, 1)
        self.assertEqual(world.edges(0), (0, 1, 3))
        self.assertEqual(world.notes(0, 3), ((3, 1, 1),))


class LeaveTest(WorldCase):
    def test_went_and_its_note(self):
        world = world_with(PAIR, ("once", 0, {3: 1}))
        beat, begun = world.beat(), len(world.log())
        table = world.table(0, 0)
        self.assertIsNone(world.leave(0, 3))
        self.assertEqual(self.news(world, begun), [("went", beat, 0, 3)])
        self.assertEqual(world.notes(0, 1), ((3, None, beat),))
        self.assertEqual(world.hands(0), ())
        self.assertEqual(world.numbers(0), ((3, "hand", 1, None, ()),))
        self.assertEqual((world.table(0, 0), world.frames()), (table, ()))

    def test_it_enters_again_as_it_was(self):
        world = world_with(PAIR, ("once", 0, {3: 1, 4: 1}))
        world.send(0, 4, 3, "one")
        world.leave(0, 3)
        world.enter(0, 3, 0)
        self.assertEqual(world.numbers(0)[0], (3, "hand", 2, 0, ((4, 1),)))
        self.assertEqual(world.ear(0, 3), ((4, 1, "one"),))
        self.assertEqual(world.log()[-2:], (("came", 1, 0, 3, "hand"), ("wrapped", 1, 0, "t", 3, 0, 1, 0, 1, 3)))
        world.leave(0, 3)
        world.enter(0, 3, 1)
        # at the place that had its note
        self.assertEqual((world.notes(0, 1), world.notes(0, 0)), ((), ((3, None, 1),)))
        world.leave(0, 3)
        self.assertEqual(world.numbers(0)[0], (3, "hand", 3, None, ((4, 1),)))

    def test_numbers_are_of_their_rooms(self):
        world = world_with(PAIR, ("once", 0, {3: 1}), ("row", 1, {3: 0}))
        world.leave(0, 3)
        self.assertEqual(world.hands(1), ((3, 0, 1),))
        self.assertEqual(world.hands(0), ())


class CloseTest(WorldCase):
    def test_what_comes_later_is_dropped(self):
        world = world_with(PAIR, ("once", 0, {3: 1, 4: 0}), ("loose", 1, {3: 0}))
        beat = world.beat()
        world.send(0, 3, 4, "x")
        world.move(0, 4, 1)
        begun = len(world.log())
        self.assertIsNone(world.close_room(0))
        self.assertEqual(len(world.log()), begun)
        world.step()
        self.assertEqual(self.news(world, begun), [
            ("dropped", beat + 1, "noroom", 0, "l", 3, 1), ("dropped", beat + 1, "noroom", 0, "h", 4, 1),
        ])
        self.assertEqual(world.rooms(), ((1, "loose", None, 1),))
        self.assertEqual(len(world.view()[8]), 1)

    def test_a_new_room_has_nothing_of_it(self):
        world = world_with(PAIR, ("once", 0, {3: 1, 4: 0}))
        world.close_room(0)
        self.assertEqual(world.put_room("once", 0), 1)
        self.assertEqual((world.edges(1), world.numbers(1)), ((0,), ()))


class LayerTest(WorldCase):
    """Room 1 over room 0, whose hands are 0 at house 0 and 5 at house 1, with the keeper at 0."""

    def setUp(self):
        self.world = world_with(PAIR, ("once", 0, {0: 0, 5: 1}))
        self.world.put_room("loose", 0, over=0)
        self.beat = self.world.beat()

    def test_here_and_tell_go_as_letters_of_the_room_beneath(self):
        world, beat = self.world, self.beat
        begun = len(world.log())
        world.enter(1, 7, 0)
        world.enter(1, 8, 5)
        self.assertEqual(self.news(world, begun), [
            ("came", beat, 1, 7, "hand"), ("came", beat, 1, 8, "hand"),
            ("wrapped", beat, 1, "h", 8, 5, 0, 5, 0, 3),
            ("sent", beat, 0, 5, 1, 0, f"!1.h.8.5.0.3.{beat}:"),
            ("wrapped", beat, 0, "l", 5, 0, 1, 1, 0, 3),
        ])
        self.assertEqual(world.letters()[0][1:], (1, 0, f"0.l.5.0.1.3.{beat}:!1.h.8.5.0.3.{beat}:"))
        begun = len(world.log())
        world.step()
        now = beat + 1
        self.assertEqual(self.news(world, begun), [
            ("heard", now, 0, 0, 5, 1, f"!1.h.8.5.0.3.{beat}:"),
            ("wrapped", now, 1, "t", 7, 0, 0, 0, 5, 3),
            ("sent", now, 0, 0, 1, 5, f"!1.t.7.0.0.3.{now}:"),
            ("wrapped", now, 0, "l", 0, 5, 1, 0, 1, 3),
        ])
        self.assertEqual(world.table(1, 0), ((8, 5, 0, now),))
        world.step()
        self.assertEqual(world.table(1, 5), ((7, 0, 0, now + 1),))
        self.assertEqual(world.edges(1), (0, 5))
        # what room 1 wraps is nothing that a hand of room 0 was told
        self.assertEqual((world.ear(0, 0), world.ear(0, 5)), ((), ()))

    def test_places_at_one_house_hear_at_once(self):
        world = self.world
        world.move(0, 5, 0)
        self.settle(world)
        begun, now = len(world.log()), world.beat()
        world.enter(1, 8, 5)
        self.assertEqual(self.news(world, begun), [
            ("came", now, 1, 8, "hand"), ("wrapped", now, 1, "h", 8, 5, 0, 5, 0, 3),
            ("sent", now, 0, 5, 2, 0, f"!1.h.8.5.0.3.{now}:"), ("heard", now, 0, 0, 5, 2, f"!1.h.8.5.0.3.{now}:"),
        ])
        self.assertEqual(world.table(1, 0), ((8, 5, 0, now),))
        self.assertEqual(world.frames(), ())

    def test_a_letter_of_hands_over_two_nets(self):
        world = self.world
        world.enter(1, 7, 0)
        world.enter(1, 8, 5)
        self.settle(world)
        begun, now = len(world.log()), world.beat()
        self.assertEqual(world.send(1, 8, 7, "hi"), 1)
        world.step()
        text = f"!1.l.8.7.1.3.{now}:.hi"
        self.assertEqual(self.news(world, begun), [
            ("sent", now, 1, 8, 1, 7, ".hi"), ("wrapped", now, 1, "l", 8, 7, 1, 5, 0, 3),
            ("sent", now, 0, 5, 2, 0, text), ("wrapped", now, 0, "l", 5, 0, 2, 1, 0, 3),
            ("heard", now + 1, 0, 0, 5, 2, text), ("heard", now + 1, 1, 7, 8, 1, ".hi"),
        ])
        self.assertEqual(world.ear(1, 7), ((8, 1, "hi"),))
        self.assertEqual(world.ear(0, 0), ())

    def test_places_move_beneath_and_the_room_does_not_know(self):
        world = self.world
        world.enter(1, 7, 0)
        world.enter(1, 8, 5)
        self.settle(world)
        tables = [world.table(1, place) for place in world.edges(1)]
        world.move(0, 5, 0)
        self.settle(world)
        self.assertEqual([world.table(1, place) for place in world.edges(1)], tables)
        self.assertEqual(world.hands(1), ((7, 0, 1), (8, 5, 1)))

    def test_closed_while_its_letters_run_beneath(self):
        world = self.world
        world.enter(1, 7, 0)
        world.enter(1, 8, 5)
        self.settle(world)
        world.send(1, 8, 7, "hi")
        world.close_room(1)
        world.step()
        now = world.beat()
        self.assertEqual(world.log()[-2:], (
            ("heard", now, 0, 0, 5, 2, f"!1.l.8.7.1.3.{now - 1}:.hi"), ("dropped", now, "noroom", 1, "l", 8, 1),
        ))
