"""Batches: many deeds or none."""

from tests.samples import ANYTHING
from tests.world_cases import LINE, PAIR, WorldCase, told_of, world_with
from wrapnets.bounds import BATCH, BEATS, DEEDS
from wrapnets.errors import BadWeave, Broken, Busy, Long, NetError, NoHand, NoRoom
from wrapnets.worlds import World

EACH = (
    ("put_room", "once", 0), ("put_room", "row", 1, None), ("enter", 0, 3, 0), ("enter", 0, 4, 1),
    ("put_room", "loose", 3, 0), ("enter", 2, 1, 4), ("step",), ("step", ((2, "hold"),)), ("send", 0, 3, 4, "hi"),
    ("send", 0, 3, None, "all"), ("move", 0, 4, 2), ("put_gate", 1, 0, 1, ((2, 7),), ((3, 8),), (("out", 3, 2),)),
    ("fall", 1, 0), ("rise", 0, 1), ("leave", 2, 1), ("close_gate", 0), ("close_room", 2), ("step", ()),
)
TOLD = (0, 1, None, None, 2, None, None, None, 1, 2, None, 0, None, None, None, None, None, None)


def done_by_calls(world, deeds):
    told = []
    for word, *things in deeds:
        named = {}
        if word == "put_room" and len(things) == 3:
            named["over"] = things.pop()
        if word == "step" and things:
            named["weave"] = things.pop()
        told.append(getattr(world, word)(*things, **named))
    return tuple(told)


class BatchTest(WorldCase):
    def without_batches(self, world):
        (view, log, many, batches, text), ears = told_of(world)
        return view, log, many, text, ears

    def test_of_each_deed(self):
        world, other = World(*LINE), World(*LINE)
        self.assertEqual(world.batch(EACH), TOLD)
        self.assertEqual(done_by_calls(other, EACH), TOLD)
        self.assertEqual(self.without_batches(world), self.without_batches(other))
        self.assertTrue(world == other)
        self.assertEqual(len(world), len(EACH) - 3)
        self.assertEqual(world.batches(), (("begin", len(EACH)), ("end", len(EACH))))

    def test_of_none(self):
        world = World(*PAIR)
        self.assertEqual(world.batch(()), ())
        self.assertEqual(world.batches(), (("begin", 0), ("end", 0)))
        self.assertEqual(world.batch((), tell=lambda other: self.fail("called")), ())

    def test_as_many_as_may_be(self):
        world = World(*PAIR)
        self.assertEqual(world.batch((("step",),) * BATCH), (None,) * BATCH)
        self.assertEqual(world.beat(), BATCH)
        self.refused(world, "BadDeeds", (), world.batch, (("step",),) * (BATCH + 1))

    def test_what_is_no_batch(self):
        world = world_with(PAIR, ("once", 0, {3: 0}))
        right = ("send", 0, 3, 3, "x")
        wrong = [thing for thing in ANYTHING if thing != ()] + [
            [right], "step", (list(right),), ("step",), (right, "step"), (right, ()), (right[:-1],), (right + (1,),),
            (("step", (), ()),), (("put_room", "once"),), (("put_room", "once", 0, None, None),), (("batch", ()),),
            (("batch",),), (("twin",),), (("view",),), (("log",),), (("close_room",),), (("enter", 0, 1),),
            (("leave", 0),), (("move", 0, 1),), (("put_gate", 0, 0, 1, (), ()),), (("close_gate", 0, 0),), (("fall", 0),),
            (("rise", 0, 1, 2),), (("Step",),), (("step ",),), (([],),), ((None, 1),), ((("step",), 1),), (({}, 0),),
            (("deed", "step", ()),), (("__len__",),), (("check_busy",),), {"step": ()},
        ]
        for deeds in wrong:
            self.refused(world, "BadDeeds", (), world.batch, deeds)
            if isinstance(deeds, tuple):
                self.refused(world, "BadDeeds", (), world.batch, (right,) + deeds)
        self.assertEqual(world.batches(), ())

    def test_keywords_have_no_place_in_it(self):
        world = World(*PAIR)
        self.refused(world, "BadDeeds", (), world.batch, (("put_room", "once", 0, {"over": None}, 1),))
        self.assertRaises(TypeError, world.batch, (), None)

    def test_broken(self):
        world = world_with(LINE, ("once", 0, {3: 0, 4: 2}))
        world.send(0, 3, 4, "x")
        refusals = {("send", 0, 9, 3, "x"): NoHand, ("close_room", 5): NoRoom, ("step", 7): BadWeave}
        for at in (0, 1, 4):
            for deed, kind in refusals.items():
                ahead = self.without_batches(world)
                good = (("step",), ("send", 0, 3, None, "y"), ("move", 0, 3, 1), ("fall", 0, 1))
                with self.assertRaises(Broken) as caught:
                    world.batch(good[:at] + (deed,) + good[at:])
                self.assertEqual(caught.exception.at, at)
                self.assertIs(type(caught.exception.__cause__), kind)
                self.assertEqual(self.without_batches(world), ahead)
                self.assertEqual(world.batches()[-2:], (("begin", 5), ("end", 0)))

    def test_broken_fields_of_the_cause(self):
        world = World(*PAIR)
        with self.assertRaises(Broken) as caught:
            world.batch((("step",), ("enter", [0], 1, 2)))
        self.assertEqual(caught.exception.__cause__.room, [0])

    def test_what_a_deed_made_the_next_one_sees(self):
        world = World(*PAIR)
        deeds = (("put_room", "once", 0), ("enter", 0, 3, 0), ("put_room", "once", 3, 0), ("enter", 1, 3, 3))
        self.assertEqual(world.batch(deeds), (0, None, 1, None))

    def test_goes_on_behind_a_broken_one(self):
        world, other = World(*LINE), World(*LINE)
        self.assertRaises(Broken, world.batch, EACH[:10] + (("step", 5),))
        self.assertEqual(world.batch(EACH), other.batch(EACH))
        self.assertEqual(self.without_batches(world), self.without_batches(other))


class LongBatchTest(WorldCase):
    def test_at_so_many_deeds(self):
        world = World(*PAIR)
        world.batch((("put_room", "loose", 0), ("enter", 0, 3, 0)))
        while len(world) < DEEDS - 10:
            world.send(0, 3, 3, "")
        ahead = world.view()
        with self.assertRaises(Broken) as caught:
            world.batch((("send", 0, 3, 3, ""),) * 11)
        self.assertEqual(caught.exception.at, 10)
        self.assertIs(type(caught.exception.__cause__), Long)
        self.assertEqual((world.view(), len(world)), (ahead, DEEDS - 10))
        world.batch((("send", 0, 3, 3, ""),) * 10)
        self.assertEqual(len(world), DEEDS)
        self.assertEqual(world.batch(()), ())
        self.assertEqual(world.batch((("step",),)), (None,))
        self.assertRaises(Broken, world.batch, (("send", 0, 3, 3, ""),))
        self.refused(world, "BadDeeds", (), world.batch, 7)

    def test_at_so_many_beats(self):
        world = World(1, ())
        while world.beat() < BEATS:
            world.batch((("step",),) * BATCH)
        with self.assertRaises(Broken) as caught:
            world.batch((("put_room", "once", 0), ("step",)))
        self.assertEqual((caught.exception.at, type(caught.exception.__cause__)), (1, Long))
        self.assertEqual(world.rooms(), ())


class TellTest(WorldCase):
    def test_behind_each_deed(self):
        world, other = World(*LINE), World(*LINE)
        seen = []
        self.assertEqual(world.batch(EACH, tell=lambda each: seen.append((each.view(), each.log(), len(each)))), TOLD)
        for at in range(len(EACH)):
            done_by_calls(other, EACH[at:at + 1])
            self.assertEqual(seen[at], (other.view(), other.log(), len(other)))
        self.assertEqual(len(seen), len(EACH))

    def test_it_is_handed_the_world_itself(self):
        world = World(*PAIR)
        seen = []
        world.batch((("step",), ("step",)), tell=seen.append)
        self.assertEqual([each is world for each in seen], [True, True])

    def test_what_it_raises_goes_through_and_all_is_as_ahead(self):
        for error in (KeyError("x"), ValueError("y"), NoRoom(5), Broken(3), KeyboardInterrupt(), Exception()):
            for at in (1, 5, len(EACH)):
                world = World(*LINE)
                world.put_room("once", 2)
                ahead = told_of(world)
                calls = []

                def tell(each):
                    calls.append(each)
                    if len(calls) == at:
                        raise error

                deeds = (("step",),) * len(EACH)
                with self.assertRaises(type(error)) as caught:
                    world.batch(deeds, tell=tell)
                self.assertIs(caught.exception, error)
                self.assertEqual(world.batches(), (("begin", len(EACH)), ("end", 0)))
                self.assertEqual((world.view(), world.log(), len(world)), (ahead[0][0], ahead[0][1], 1))
                # and it is busy no more
                self.assertIsNone(world.step())

    def test_it_is_not_called_behind_a_refused_deed(self):
        world = World(*PAIR)
        seen = []
        self.assertRaises(Broken, world.batch, (("step",), ("step", 3), ("step",)), tell=seen.append)
        self.assertEqual(len(seen), 1)

    def test_busy_ahead_of_all_else(self):
        world = world_with(PAIR, ("once", 0, {3: 0}))
        calls = [
            ("put_room", ("once", 0)), ("put_room", ([], [])), ("close_room", (0,)), ("enter", (0, 4, 0)),
            ("enter", (9, None, {})), ("leave", (0, 3)), ("move", (0, 3, 1)), ("send", (0, 3, 3, "x")),
            ("put_gate", (0, 0, 0, 0, 0, 0)), ("close_gate", (0,)), ("fall", (0, 1)), ("rise", (0, 1)), ("step", ()),
            ("batch", ((),)), ("batch", ((("step",),),)), ("batch", (7,)),
        ]
        seen = []

        def tell(each):
            ahead = told_of(each)
            for word, things in calls:
                try:
                    getattr(each, word)(*things)
                except NetError as error:
                    seen.append(type(error))
                self.assertEqual(told_of(each), ahead)
            self.assertRaises(Busy, each.step, weave="none")

        self.assertEqual(world.batch((("step",), ("send", 0, 3, 3, "y")), tell=tell), (None, 1))
        self.assertEqual(seen, [Busy] * len(calls) * 2)
        self.assertEqual(len(world.batches()), 2)
        self.assertEqual(world.ear(0, 3), ((3, 1, "y"),))

    def test_busy_at_so_many_deeds(self):
        world = world_with(PAIR, ("once", 0, {3: 0}))
        while len(world) < DEEDS:
            world.send(0, 3, 3, "")
        world.batch((("step",),), tell=lambda each: self.assertRaises(Busy, each.send, 0, 3, 3, ""))

    def test_a_busy_that_goes_through(self):
        world = World(*PAIR)
        self.assertRaises(Busy, world.batch, (("step",),), tell=lambda each: each.step())
        self.assertEqual(world.beat(), 0)

    def test_twins_made_within_are_not_busy(self):
        world = World(*PAIR)
        twins = []

        def tell(each):
            other = each.twin()
            self.assertEqual(other.batches(), each.batches())
            self.assertTrue(other == each)
            other.step()
            self.assertEqual(other.batch((("step",),)), (None,))
            twins.append(other)

        world.batch((("step",), ("step",)), tell=tell)
        self.assertEqual([other.beat() for other in twins], [3, 4])
        self.assertEqual(twins[0].batches(), (("begin", 2), ("begin", 1), ("end", 1)))
        self.assertEqual(world.beat(), 2)

    def test_other_worlds_go_on_within(self):
        world, other = World(*PAIR), World(*PAIR)
        world.batch((("step",),) * 3, tell=lambda each: other.batch((("step",),)))
        self.assertEqual((world.beat(), other.beat()), (3, 3))

    def test_batches_within(self):
        world = World(*PAIR)
        seen = []
        world.batch((("step",),) * 2, tell=lambda each: seen.append(each.batches()))
        self.assertEqual(seen, [(("begin", 2),)] * 2)


class BatchesTest(WorldCase):
    def test_the_last_ten_rows(self):
        world = World(*PAIR)
        for many in range(7):
            world.batch((("step",),) * many)
        rows = [row for many in range(7) for row in (("begin", many), ("end", many))]
        self.assertEqual(world.batches(), tuple(rows[-10:]))
        self.assertRaises(Broken, world.batch, (("step",), ("step", 1)))
        self.assertEqual(world.batches(), tuple((rows + [("begin", 2), ("end", 0)])[-10:]))

    def test_deeds_by_calls_are_no_batches(self):
        world = World(*PAIR)
        world.step()
        self.assertEqual(world.batches(), ())
