"""Letters of hands: sent, wrapped, led on, heard and dropped, by cases worked out by hand."""

from tests.world_cases import LINE, PAIR, STAR, WorldCase, world_with
from wrapnets.bounds import AGE, COUNT, HOPS, JOIN, NOTES
from wrapnets.filters import KINDS
from wrapnets.worlds import World

NARROW_PAIR = (2, ((0, 1, 1, 16),))


class SentTest(WorldCase):
    def test_to_a_hand_at_the_same_place(self):
        for kind in KINDS:
            world = world_with(PAIR, (kind, 0, {3: 1, 4: 1}))
            begun, beat = len(world.log()), world.beat()
            self.assertEqual(world.send(0, 3, 4, "x y"), 1)
            self.assertEqual(self.news(world, begun), [
                ("sent", beat, 0, 3, 1, 4, ".x y"), ("heard", beat, 0, 4, 3, 1, ".x y"),
            ])
            self.assertEqual(world.ear(0, 4), ((3, 1, "x y"),))
            self.assertEqual(world.ear(0, 3), ())
            self.assertEqual(world.frames(), ())
            self.assertEqual(world.send(0, 3, 4, ""), 2)
            self.assertEqual(world.ear(0, 4), ((3, 1, "x y"), (3, 2, "")))

    def test_to_oneself(self):
        world = world_with(PAIR, ("row", 0, {3: 1}))
        self.assertEqual(world.send(0, 3, 3, "me"), 1)
        self.assertEqual(world.log()[-2:], (("sent", 1, 0, 3, 1, 3, ".me"), ("heard", 1, 0, 3, 3, 1, ".me")))
        self.assertEqual(world.ear(0, 3), ((3, 1, "me"),))

    def test_to_one_that_the_table_knows(self):
        world = world_with(LINE, ("once", 1, {3: 0, 4: 2}))
        begun, beat = len(world.log()), world.beat()
        world.send(0, 3, 4, "hi")
        self.assertEqual(self.news(world, begun), [
            ("sent", beat, 0, 3, 1, 4, ".hi"), ("wrapped", beat, 0, "l", 3, 4, 1, 0, 2, COUNT - 1),
        ])
        self.assertEqual([row[1:] for row in world.letters()], [(0, 2, f"0.l.3.4.1.3.{beat}:.hi")])
        self.steps(world, 2)
        self.assertEqual(world.log()[-1], ("heard", beat + 2, 0, 4, 3, 1, ".hi"))
        # the place of 4 learned from the letter where 3 is
        self.assertEqual(world.table(0, 2), ((3, 0, 1, beat + 2),))

    def test_to_one_that_the_table_does_not_know(self):
        world = World(*STAR)
        world.put_room("once", 1)
        world.enter(0, 3, 0)
        world.enter(0, 4, 3)
        begun = len(world.log())
        world.send(0, 3, 4, "hi")
        self.assertEqual(self.news(world, begun), [
            ("sent", 0, 0, 3, 1, 4, ".hi"),
            ("wrapped", 0, 0, "u", 3, 4, 1, 0, 1, 3), ("wrapped", 0, 0, "u", 3, 4, 1, 0, 3, 3),
        ])
        world.step()
        # at 1, where 4 isn't and never was, nothing comes of it but what the table learns
        self.assertEqual(self.rows(world, "heard", "dropped"), [("heard", 1, 0, 4, 3, 1, ".hi")])
        self.assertEqual(world.table(0, 1)[0], (3, 0, 1, 1))
        self.assertEqual(world.table(0, 3), ((3, 0, 1, 1),))

    def test_to_a_number_that_nobody_has(self):
        world = world_with(STAR, ("once", 0, {3: 1, 4: 2}))
        begun, beat = len(world.log()), world.beat()
        self.assertEqual(world.send(0, 3, 15, "hi"), 1)
        self.steps(world, 4)
        self.assertEqual(self.news(world, begun), [
            ("sent", beat, 0, 3, 1, 15, ".hi"),
            ("wrapped", beat, 0, "u", 3, 15, 1, 1, 0, 3), ("wrapped", beat, 0, "u", 3, 15, 1, 1, 2, 3),
        ])

    def test_rows_that_are_too_old_are_not_looked_up(self):
        for late, kind in ((0, "l"), (1, "u")):
            world = world_with(PAIR, ("once", 0, {3: 0, 4: 1}))
            [row] = world.table(0, 0)
            while world.beat() < row[3] + AGE + late:
                world.step()
            world.send(0, 3, 4, "hi")
            self.assertEqual(world.log()[-1][3], kind)

    def test_to_one_that_was_here_and_left(self):
        # where it was put the table has no row of it any more
        world = world_with(PAIR, ("loose", 0, {3: 1, 4: 0}))
        world.move(0, 3, 0)
        world.leave(0, 3)
        self.settle(world)
        begun = len(world.log())
        world.send(0, 4, 3, "hi")
        self.assertEqual(self.news(world, begun)[1][3], "u")

    def test_to_all(self):
        world = world_with(STAR, ("once", 0, {3: 1, 9: 1, 2: 1, 4: 2, 5: 0}))
        world.put_gate(1, 0, world.put_room("once", 0), ((7, 10),), (), ())
        self.settle(world)
        begun, beat = len(world.log()), world.beat()
        world.send(0, 3, None, "all")
        self.assertEqual(self.news(world, begun), [
            ("sent", beat, 0, 3, 1, None, ".all"),
            ("heard", beat, 0, 2, 3, 1, ".all"), ("heard", beat, 0, 9, 3, 1, ".all"),
            ("wrapped", beat, 0, "a", 3, 0, 1, 1, 0, 3), ("wrapped", beat, 0, "a", 3, 0, 1, 1, 2, 3),
        ])
        begun = len(world.log())
        self.steps(world, 2)
        self.assertEqual(self.news(world, begun), [
            ("heard", beat + 1, 0, 5, 3, 1, ".all"), ("heard", beat + 2, 0, 4, 3, 1, ".all"),
        ])
        self.assertIn((3, 1, 1, beat + 2), world.table(0, 2))

    def test_to_all_where_nobody_else_is(self):
        world = world_with(PAIR, ("once", 0, {3: 0}))
        self.assertEqual(world.send(0, 3, None, "all"), 1)
        self.assertEqual(world.log()[-1], ("sent", 0, 0, 3, 1, None, ".all"))

    def test_numbers_are_those_of_the_senders_counter(self):
        world = world_with(PAIR, ("loose", 0, {3: 1, 4: 1}))
        self.assertEqual([world.send(0, 3, 4, "x") for many in range(3)], [1, 2, 3])
        self.assertEqual(world.send(0, 4, None, "x"), 1)
        world.move(0, 3, 0)
        self.assertEqual(world.send(0, 3, 4, "x"), 5)
        self.assertEqual(world.hands(0), ((3, 0, 6), (4, 1, 2)))


class LearnTest(WorldCase):
    def test_a_lesser_number_teaches_nothing(self):
        world = world_with(LINE, ("loose", 0, {3: 0, 4: 2}))
        world.send(0, 3, 4, "one")
        first = world.frames()[-1][0]
        beat = world.beat()
        world.step(weave=((first, "hold"),))
        world.send(0, 3, 4, "two")
        for held in range(2):
            world.step(weave=((first, "hold"),))
        self.assertEqual(world.table(0, 2), ((3, 0, 2, beat + 3),))
        self.steps(world, 2)
        self.assertEqual(world.ear(0, 4), ((3, 2, "two"), (3, 1, "one")))
        self.assertEqual(world.table(0, 2), ((3, 0, 2, beat + 3),))

    def test_where_the_sender_is_by_now_nothing_is_learned_of_it(self):
        world = world_with(PAIR, ("loose", 0, {3: 0, 4: 1}))
        world.send(0, 3, 4, "one")
        world.move(0, 3, 1)
        world.step()
        self.assertEqual(world.ear(0, 4), ((3, 1, "one"),))
        self.assertEqual(world.table(0, 1), ())

    def test_a_sender_that_left_is_learned_all_the_same(self):
        world = world_with(PAIR, ("loose", 0, {3: 0, 4: 1}))
        world.send(0, 3, 4, "one")
        world.leave(0, 3)
        world.step()
        self.assertEqual(world.table(0, 1), ((3, 0, 1, world.beat()),))

    def test_what_is_led_on_teaches_nothing(self):
        world = world_with(STAR, ("loose", 0, {3: 0, 4: 1}))
        world.send(0, 3, 4, "one")
        world.move(0, 4, 2)
        beat = world.beat()
        self.steps(world, 3)
        self.assertEqual(world.ear(0, 4), ((3, 1, "one"),))
        # of 3 the new place knows what the keeper told it, ahead of the letter, from its own counter
        self.assertEqual(world.table(0, 2), ((3, 0, 1, beat + 2),))


class LedOnTest(WorldCase):
    def test_by_a_note(self):
        world = world_with(STAR, ("once", 3, {3: 1, 4: 2}))
        begun, beat = len(world.log()), world.beat()
        world.send(0, 3, 4, "hi")
        world.move(0, 4, 0)
        self.settle(world)
        led = [row for row in self.news(world, begun) if row[0] == "wrapped" and row[3] in "lf"]
        self.assertEqual(led, [
            ("wrapped", beat, 0, "l", 3, 4, 1, 1, 2, 3), ("wrapped", beat + 2, 0, "f", 3, 4, 1, 2, 0, 2),
        ])
        self.assertEqual(self.rows(world, "heard"), [("heard", beat + 3, 0, 4, 3, 1, ".hi")])

    def test_the_head_keeps_its_beat(self):
        world = world_with(STAR, ("once", 3, {3: 1, 4: 2}))
        beat = world.beat()
        world.send(0, 3, 4, "hi")
        world.move(0, 4, 0)
        self.steps(world, 2)
        self.assertIn((2, 0, f"0.f.3.4.1.2.{beat}:.hi"), [row[1:] for row in world.letters()])

    def test_by_the_table_where_the_note_is_not_fresh(self):
        for late in (0, 1):
            world = world_with(STAR, ("loose", 0, {3: 0, 4: 1}))
            world.send(0, 3, 4, "hi")
            [frame] = [row[0] for row in world.frames()]
            world.move(0, 4, 2)
            moved = world.beat()
            world.move(0, 4, 3)
            # the note of place 1 tells place 2; its table learns of 3 from the keeper
            while world.beat() < moved + NOTES - 1 + late:
                world.step(weave=((frame, "hold"),))
            self.assertEqual(world.notes(0, 1), ((4, 2, moved),))
            self.assertEqual(world.table(0, 1)[-1][:3], (4, 3, 2))
            begun = len(world.log())
            world.step()
            row = ("wrapped", moved + NOTES + late, 0, "f", 3, 4, 1, 1, 3 if late else 2, 2)
            self.assertEqual(self.news(world, begun), [row])
            self.settle(world)
            self.assertEqual(len(world.ear(0, 4)), 1)

    def test_gone_where_it_left(self):
        world = world_with(PAIR, ("once", 0, {3: 0, 4: 1}))
        world.send(0, 3, 4, "hi")
        world.leave(0, 4)
        world.step()
        self.assertEqual(world.log()[-1], ("dropped", world.beat(), "gone", 0, "l", 3, 1))

    def test_gone_behind_a_way_on(self):
        world = world_with(STAR, ("once", 0, {3: 0, 4: 1}))
        world.send(0, 3, 4, "hi")
        world.move(0, 4, 2)
        world.step()
        world.leave(0, 4)
        self.settle(world)
        # led on to 2, which has a note of no place, and whose table has no row of it
        self.assertEqual(world.log()[-1], ("dropped", world.beat(), "gone", 0, "f", 3, 1))

    def test_gone_where_the_table_is_too_old(self):
        world = world_with(PAIR, ("once", 0, {3: 0, 4: 1}))
        world.send(0, 3, 4, "hi")
        [frame] = [row[0] for row in world.frames()]
        world.move(0, 4, 0)
        tell = world.frames()[-1][0]
        moved = world.beat()
        world.step(weave=((frame, "hold"), (tell, "lose")))
        while world.beat() < moved + AGE:
            world.step(weave=((frame, "hold"),))
        self.assertEqual(world.table(0, 1)[-1], (4, 0, 1, moved))
        world.step()
        self.assertEqual(world.log()[-1], ("dropped", moved + AGE + 1, "gone", 0, "l", 3, 1))

    def test_by_the_table_up_to_its_age(self):
        world = world_with(PAIR, ("once", 0, {3: 0, 4: 1}))
        world.send(0, 3, 4, "hi")
        [frame] = [row[0] for row in world.frames()]
        world.move(0, 4, 0)
        moved = world.beat()
        world.step(weave=((frame, "hold"), (world.frames()[-1][0], "lose")))
        while world.beat() < moved + AGE - 1:
            world.step(weave=((frame, "hold"),))
        world.step()
        self.assertEqual(world.log()[-1], ("wrapped", moved + AGE, 0, "f", 3, 4, 1, 1, 0, 2))

    def test_count(self):
        world = world_with(PAIR, ("once", 0, {3: 0, 4: 1}))
        begun, beat = len(world.log()), world.beat()
        world.send(0, 3, 4, "hi")
        for place in (0, 1, 0, 1):
            world.move(0, 4, place)
            world.step()
        rows = [row for row in self.news(world, begun) if row[3] not in ("h", "t") and row[0] in ("wrapped", "dropped")]
        self.assertEqual(rows, [
            ("wrapped", beat, 0, "l", 3, 4, 1, 0, 1, 3), ("wrapped", beat + 1, 0, "f", 3, 4, 1, 1, 0, 2),
            ("wrapped", beat + 2, 0, "f", 3, 4, 1, 0, 1, 1), ("wrapped", beat + 3, 0, "f", 3, 4, 1, 1, 0, 0),
            ("dropped", beat + 4, "count", 0, "f", 3, 1),
        ])

    def test_unaimed_by_a_note_that_is_not_elder(self):
        # sent at the very beat of the note, and a beat later
        for late in (0, 1):
            world = World(*STAR)
            world.put_room("loose", 3)
            world.enter(0, 3, 0)
            world.enter(0, 4, 1)
            world.move(0, 4, 2)
            if late:
                for frame in list(world.frames()):
                    world.step(weave=tuple((row[0], "lose") for row in world.frames()))
            begun = len(world.log())
            world.send(0, 3, 4, "hi")
            self.assertEqual([row[3] for row in self.news(world, begun)[1:]], ["u", "u", "u"])
            begun, beat = len(world.log()), world.beat() + 1
            world.step()
            led = [row for row in self.news(world, begun) if row[3] == "f"]
            self.assertEqual(led, [] if late else [("wrapped", beat, 0, "f", 3, 4, 1, 1, 2, 2)])
            self.settle(world)
            self.assertEqual(len(world.ear(0, 4)), 1 if late else 2)

    def test_unaimed_to_one_that_left_meanwhile(self):
        world = World(*PAIR)
        world.put_room("loose", 1)
        world.enter(0, 3, 0)
        world.enter(0, 4, 1)
        world.send(0, 3, 4, "hi")
        world.leave(0, 4)
        world.step()
        self.assertEqual(self.rows(world, "dropped"), [("dropped", 1, "gone", 0, "u", 3, 1)])


class ToAllLedOnTest(WorldCase):
    def test_to_those_that_moved_meanwhile(self):
        world = world_with(STAR, ("once", 0, {3: 0, 4: 1, 5: 1, 6: 1}))
        begun, beat = len(world.log()), world.beat()
        world.send(0, 3, None, "all")
        world.move(0, 6, 3)
        world.move(0, 4, 2)
        world.leave(0, 5)
        world.step()
        rows = [row for row in self.news(world, begun) if row[1] == beat + 1 and row[3] != "t"]
        self.assertEqual(rows, [
            ("wrapped", beat + 1, 0, "f", 3, 4, 1, 1, 2, 2), ("dropped", beat + 1, "gone", 0, "a", 3, 1),
            ("wrapped", beat + 1, 0, "f", 3, 6, 1, 1, 3, 2),
        ])
        self.settle(world)
        self.assertEqual((len(world.ear(0, 4)), len(world.ear(0, 6))), (1, 1))

    def test_notes_that_are_elder_lead_nothing(self):
        world = world_with(STAR, ("loose", 0, {3: 0, 4: 1}))
        world.move(0, 4, 2)
        world.step()
        begun = len(world.log())
        world.send(0, 3, None, "all")
        self.settle(world)
        self.assertEqual([row for row in self.news(world, begun) if row[3] == "f"], [])
        self.assertEqual(len(world.ear(0, 4)), 1)

    def test_notes_of_the_same_beat_lead(self):
        world = world_with(STAR, ("loose", 0, {3: 0, 4: 1}))
        world.move(0, 4, 2)
        world.send(0, 3, None, "all")
        self.settle(world)
        self.assertEqual(len(world.ear(0, 4)), 2)

    def test_gone_where_the_note_is_not_fresh(self):
        for late in (0, 1):
            world = world_with(STAR, ("loose", 0, {3: 0, 4: 1}))
            world.send(0, 3, None, "all")
            frame = world.frames()[0][0]
            world.move(0, 4, 2)
            moved = world.beat()
            while world.beat() < moved + NOTES - 1 + late:
                world.step(weave=((frame, "hold"),))
            begun = len(world.log())
            world.step()
            led = ("wrapped", moved + NOTES, 0, "f", 3, 4, 1, 1, 2, 2)
            gone = ("dropped", moved + NOTES + 1, "gone", 0, "a", 3, 1)
            self.assertEqual(self.news(world, begun), [gone if late else led])

    def test_the_sender_and_aliases(self):
        world = world_with(PAIR, ("loose", 0, {3: 1, 4: 0}))
        world.put_gate(0, 0, world.put_room("loose", 0), ((7, 10),), (), ())
        self.settle(world)
        world.send(0, 3, None, "all")
        world.move(0, 3, 0)
        world.move(0, 3, 1)
        world.close_gate(0)
        begun, beat = len(world.log()), world.beat()
        world.step()
        # the note of the sender leads nothing; the alias that left meanwhile is a number too
        self.assertEqual(self.news(world, begun)[:2], [
            ("heard", beat + 1, 0, 4, 3, 1, ".all"), ("dropped", beat + 1, "gone", 0, "a", 3, 1),
        ])


class KindTest(WorldCase):
    def doubled(self, kind):
        world = world_with(PAIR, (kind, 0, {3: 0, 4: 1}))
        world.send(0, 3, 4, "hi")
        world.step(weave=((world.frames()[0][0], "double"),))
        begun = len(world.log())
        world.step()
        return world, self.news(world, begun)

    def test_a_doubled_letter(self):
        beat = 4
        for kind, row in (
            ("loose", ("heard", beat, 0, 4, 3, 1, ".hi")), ("once", ("dropped", beat, "again", 0, "l", 3, 1)),
            ("row", ("dropped", beat, "late", 0, "l", 3, 1)),
        ):
            world, news = self.doubled(kind)
            self.assertEqual(news, [row])
            self.assertEqual(len(world.ear(0, 4)), 2 if kind == "loose" else 1)

    def test_turned_about(self):
        for kind, heard in (("loose", [2, 1]), ("once", [2, 1]), ("row", [2])):
            world = world_with(PAIR, (kind, 0, {3: 0, 4: 1}))
            world.send(0, 3, 4, "one")
            first = world.frames()[0][0]
            world.send(0, 3, 4, "two")
            world.step(weave=((first, "hold"),))
            world.step()
            self.assertEqual([row[1] for row in world.ear(0, 4)], heard)

    def test_late_of_a_letter_to_all(self):
        world = world_with(PAIR, ("row", 0, {3: 0, 4: 1}))
        world.send(0, 3, None, "one")
        first = world.frames()[0][0]
        world.send(0, 3, 4, "two")
        world.step(weave=((first, "hold"),))
        world.step()
        self.assertEqual(world.log()[-1], ("dropped", 4, "late", 0, "a", 3, 1))

    def test_filters_are_each_hands_own(self):
        world = world_with(PAIR, ("row", 0, {3: 0, 4: 0, 5: 0}))
        world.send(0, 3, 4, "one")
        world.send(0, 3, None, "two")
        self.assertEqual(world.numbers(0)[1:], ((4, "hand", 1, 0, ((3, 2),)), (5, "hand", 1, 0, ((3, 2),))))


class DroppedOnTheGroundTest(WorldCase):
    def test_lost(self):
        world = world_with(PAIR, ("once", 0, {3: 0, 4: 1}))
        world.send(0, 3, None, "hi")
        begun, beat = len(world.log()), world.beat()
        world.step(weave=((world.frames()[0][0], "lose"),))
        self.assertEqual(self.news(world, begun), [("dropped", beat + 1, "lost", 0, "a", 3, 1)])

    def test_heres_and_tells(self):
        world = World(*PAIR)
        world.put_room("once", 0)
        world.enter(0, 9, 0)
        world.enter(0, 4, 1)
        world.step(weave=((0, "double"),))
        world.step(weave=((1, "lose"), (2, "lose")))
        self.assertEqual(self.rows(world, "dropped"), [
            ("dropped", 2, "lost", 0, "h", 4, 0), ("dropped", 2, "lost", 0, "t", 9, 0),
        ])

    def test_fallen(self):
        world = world_with(PAIR, ("once", 0, {3: 0, 4: 1}))
        world.send(0, 3, 4, "hi")
        world.send(0, 3, 9, "hi")
        begun, beat = len(world.log()), world.beat()
        world.fall(1, 0)
        self.assertEqual(self.news(world, begun), [
            ("dropped", beat, "fallen", 0, "l", 3, 1), ("dropped", beat, "fallen", 0, "u", 3, 2),
        ])

    def test_noway(self):
        world = world_with(PAIR, ("once", 0, {3: 0, 4: 1}))
        world.fall(0, 1)
        begun, beat = len(world.log()), world.beat()
        world.send(0, 3, 4, "hi")
        self.assertEqual(self.news(world, begun), [
            ("sent", beat, 0, 3, 1, 4, ".hi"), ("wrapped", beat, 0, "l", 3, 4, 1, 0, 1, 3),
            ("dropped", beat, "noway", 0, "l", 3, 1),
        ])

    def test_hops(self):
        world = world_with(LINE, ("once", 0, {3: 0, 4: 2}))
        world.send(0, 3, 4, "hi")
        beat = world.beat()
        # houses 0 and 1 each think that the other one knows a way
        world.fall(1, 2)
        begun = len(world.log())
        self.steps(world, HOPS)
        self.assertEqual(self.news(world, begun), [("dropped", beat + HOPS, "hops", 0, "l", 3, 1)])

    def test_broken(self):
        world = world_with(NARROW_PAIR, ("once", 0, {3: 0, 4: 1}))
        world.send(0, 3, 4, "twelve signs")
        self.assertEqual(len(world.frames()), 2)
        begun, beat = len(world.log()), world.beat()
        world.step(weave=((world.frames()[0][0], "lose"),))
        self.assertEqual(len(world.heaps()), 1)
        self.steps(world, JOIN)
        self.assertEqual(self.news(world, begun), [
            ("dropped", beat + 1, "lost", 0, "l", 3, 1), ("dropped", beat + 1 + JOIN, "broken", 0, "l", 3, 1),
        ])

    def test_what_is_dropped_stands_ahead_of_what_comes(self):
        world = world_with(PAIR, ("once", 0, {3: 0, 4: 1}))
        world.send(0, 3, 4, "one")
        world.send(0, 3, 4, "two")
        begun, beat = len(world.log()), world.beat()
        world.step(weave=((world.frames()[1][0], "lose"),))
        self.assertEqual(self.news(world, begun), [
            ("dropped", beat + 1, "lost", 0, "l", 3, 2), ("heard", beat + 1, 0, 4, 3, 1, ".one"),
        ])

    def test_of_the_room_beneath(self):
        world = world_with(PAIR, ("once", 0, {0: 0, 5: 1}))
        world.put_room("loose", 0, over=0)
        world.enter(1, 8, 5)
        begun, beat = len(world.log()), world.beat()
        world.step(weave=((world.frames()[0][0], "lose"),))
        # the letter of room 0 that bears the here
        self.assertEqual(self.news(world, begun), [("dropped", beat + 1, "lost", 0, "l", 5, 1)])


class TextTest(WorldCase):
    def test_texts_that_look_like_heads_are_texts(self):
        world = world_with(PAIR, ("once", 0, {3: 0, 4: 1}))
        texts = ("!0.h.4.0.9.3", "0.t.3.1.9:", ".", "!", ":", "0.l.1.1.1.1:")
        for text in texts:
            world.send(0, 3, 4, text)
            world.send(0, 4, 4, text)
        self.settle(world)
        heard = [row[2] for row in world.ear(0, 4)]
        self.assertEqual(sorted(heard), sorted(texts * 2))
        self.assertEqual(world.table(0, 0), ((4, 1, 0, 1),))
