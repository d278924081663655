"""Gates of a world: aliases, letters passed, refused and led round, by cases worked out by hand."""

from tests.world_cases import LINE, PAIR, STAR, WorldCase, world_with
from wrapnets.bounds import COUNT
from wrapnets.worlds import World

# Hand 3 of room 0 is 8 in room 1, hand 2 of room 1 is 7 in room 0, and each may send to the other one.
OURS, THEIRS = ((2, 7),), ((3, 8),)
MAY = (("out", 3, 2), ("in", 2, 3))


def two_rooms(ground=LINE, kind="once"):
    """Hand 3 of room 0 at house 0, hand 2 of room 1 at house 2, and the gate between them at house 1."""
    world = world_with(ground, (kind, 0, {3: 0}), (kind, 2, {2: 2}))
    world.put_gate(1, 0, 1, OURS, THEIRS, MAY)
    while world.frames():
        world.step()
    return world


class AliasTest(WorldCase):
    def test_aliases_are_put_ours_then_theirs_by_rising_numbers(self):
        world = world_with(PAIR, ("once", 0, {}), ("row", 0, {}))
        self.assertEqual(world.put_gate(1, 1, 0, ((0, 9), (1, 7)), ((0, 15), (1, 3), (2, 7)), ()), 0)
        self.assertEqual(world.log(), (
            ("came", 0, 1, 7, "alias"), ("wrapped", 0, 1, "h", 7, 1, 0, 1, 0, 3),
            ("came", 0, 1, 9, "alias"), ("wrapped", 0, 1, "h", 9, 1, 0, 1, 0, 3),
            ("came", 0, 0, 3, "alias"), ("wrapped", 0, 0, "h", 3, 1, 0, 1, 0, 3),
            ("came", 0, 0, 7, "alias"), ("wrapped", 0, 0, "h", 7, 1, 0, 1, 0, 3),
            ("came", 0, 0, 15, "alias"), ("wrapped", 0, 0, "h", 15, 1, 0, 1, 0, 3),
        ))
        self.assertEqual(world.aliases(1), ((7, 1, 1), (9, 1, 1)))
        self.assertEqual(world.aliases(0), ((3, 1, 1), (7, 1, 1), (15, 1, 1)))
        self.assertEqual((world.hands(0), world.hands(1)), ((), ()))
        self.assertEqual(world.numbers(1), ((7, "alias", 1, 1, ()), (9, "alias", 1, 1, ())))
        self.assertEqual(world.edges(0), (0, 1))

    def test_gates_are_told_as_handed_in(self):
        world = world_with(PAIR, ("once", 0, {}), ("row", 0, {}))
        handed = (1, 1, 0, ((5, 9), (1, 7)), (), (("in", 5, 5), ("in", 5, 5)))
        world.put_gate(*handed)
        world.put_gate(0, 0, 1, (), (), ())
        self.assertEqual(world.gates(), ((0,) + handed, (1, 0, 0, 1, (), (), ())))
        world.close_gate(0)
        self.assertEqual(world.gates(), ((1, 0, 0, 1, (), (), ()),))
        self.assertEqual(world.made()[1], 2)

    def test_the_keeper_knows_aliases_as_it_knows_hands(self):
        world = two_rooms()
        self.assertEqual([row[:3] for row in world.table(0, 0)], [(7, 1, 0)])
        self.assertEqual([row[:3] for row in world.table(0, 1)], [(3, 0, 0)])

    def test_closed(self):
        world = world_with(PAIR, ("once", 0, {}), ("row", 0, {}))
        world.put_gate(1, 1, 0, ((0, 9), (1, 7)), ((0, 15), (1, 3)), ())
        self.settle(world)
        begun, beat = len(world.log()), world.beat()
        self.assertIsNone(world.close_gate(0))
        self.assertEqual(self.news(world, begun), [
            ("went", beat, 1, 7), ("went", beat, 1, 9), ("went", beat, 0, 3), ("went", beat, 0, 15),
        ])
        self.assertEqual(world.notes(1, 1), ((7, None, beat), (9, None, beat)))
        self.assertEqual((world.aliases(0), world.aliases(1), world.gates()), ((), (), ()))
        self.assertEqual(world.numbers(1), ((7, "alias", 1, None, ()), (9, "alias", 1, None, ())))

    def test_a_second_gate_with_the_same_aliases(self):
        world = two_rooms()
        self.refused(world, "BadGate", ("ours",), world.put_gate, 1, 0, 1, OURS, (), ())
        self.refused(world, "BadGate", ("theirs",), world.put_gate, 1, 0, 1, (), THEIRS, ())
        world.close_gate(0)
        self.assertEqual(world.put_gate(0, 0, 1, OURS, THEIRS, MAY), 1)
        # they keep their counters
        self.assertEqual(world.aliases(0), ((7, 0, 2),))

    def test_a_hands_number_is_never_an_aliass_nor_the_other_way_round(self):
        world = two_rooms()
        world.enter(0, 4, 0)
        world.leave(0, 4)
        self.refused(world, "BadGate", ("ours",), world.put_gate, 1, 0, 1, ((2, 4),), (), ())
        world.close_gate(0)
        self.refused(world, "Taken", (7,), world.enter, 0, 7, 0)
        self.assertIsNone(world.enter(1, 7, 0))
        self.assertIsNone(world.enter(0, 8, 0))

    def test_aliases_cant_be_named_in_deeds(self):
        world = two_rooms()
        self.refused(world, "NoHand", (7,), world.leave, 0, 7)
        self.refused(world, "NoHand", (7,), world.move, 0, 7, 0)
        self.refused(world, "NoHand", (7,), world.send, 0, 7, 3, "x")
        self.refused(world, "NoHand", (7,), world.ear, 0, 7)


class PassTest(WorldCase):
    def test_out(self):
        world = two_rooms()
        begun, beat = len(world.log()), world.beat()
        self.assertEqual(world.send(0, 3, 7, "hi"), 1)
        self.steps(world, 2)
        self.assertEqual(self.news(world, begun), [
            ("sent", beat, 0, 3, 1, 7, ".hi"), ("wrapped", beat, 0, "l", 3, 7, 1, 0, 1, 3),
            ("heard", beat + 1, 0, 7, 3, 1, ".hi"), ("passed", beat + 1, 0, 0, 3, 1, 1, 8, 1),
            # three were left, and two of them go with it
            ("sent", beat + 1, 1, 8, 1, 2, ".hi"), ("wrapped", beat + 1, 1, "l", 8, 2, 1, 1, 2, 1),
            ("heard", beat + 2, 1, 2, 8, 1, ".hi"),
        ])
        self.assertEqual(world.ear(1, 2), ((8, 1, "hi"),))

    def test_in(self):
        world = two_rooms()
        begun, beat = len(world.log()), world.beat()
        world.send(1, 2, 8, "ho")
        self.steps(world, 2)
        self.assertEqual(self.news(world, begun)[2:], [
            ("heard", beat + 1, 1, 8, 2, 1, ".ho"), ("passed", beat + 1, 0, 1, 2, 1, 0, 7, 1),
            ("sent", beat + 1, 0, 7, 1, 3, ".ho"), ("wrapped", beat + 1, 0, "l", 7, 3, 1, 1, 0, 1),
            ("heard", beat + 2, 0, 3, 7, 1, ".ho"),
        ])
        # the answer goes to the alias that it came from
        world.send(0, 3, world.ear(0, 3)[0][0], "ha")
        self.settle(world)
        self.assertEqual(world.ear(1, 2), ((8, 1, "ha"),))

    def test_heard_at_the_senders_place(self):
        world = two_rooms()
        world.move(0, 3, 1)
        world.move(1, 2, 1)
        self.settle(world)
        begun, beat = len(world.log()), world.beat()
        world.send(0, 3, 7, "hi")
        self.assertEqual(self.news(world, begun), [
            ("sent", beat, 0, 3, 2, 7, ".hi"), ("heard", beat, 0, 7, 3, 2, ".hi"),
            ("passed", beat, 0, 0, 3, 2, 1, 8, 1), ("sent", beat, 1, 8, 1, 2, ".hi"),
            ("heard", beat, 1, 2, 8, 1, ".hi"),
        ])

    def test_the_count_that_goes_with_it_from_the_senders_place(self):
        world = two_rooms()
        world.move(0, 3, 1)
        self.settle(world)
        world.send(0, 3, 7, "hi")
        # sent with COUNT, passed with one less, written with one less again
        self.assertEqual(world.log()[-1][:4] + world.log()[-1][-1:], ("wrapped", world.beat(), 1, "l", COUNT - 2))

    def test_no_rule(self):
        world = two_rooms()
        world.enter(0, 4, 0)
        self.settle(world)
        begun, beat = len(world.log()), world.beat()
        world.send(0, 4, 7, "hi")
        world.step()
        self.assertEqual(self.news(world, begun)[2:], [
            ("heard", beat + 1, 0, 7, 4, 1, ".hi"), ("dropped", beat + 1, "rule", 0, "l", 4, 1),
        ])

    def test_each_rule_that_is_missing(self):
        for theirs, may in (
            ((), MAY), (((4, 8),), MAY), (THEIRS, ()), (THEIRS, MAY[1:]), (THEIRS, (("out", 3, 3),)),
            (THEIRS, (("out", 2, 3), ("in", 3, 2))),
        ):
            world = world_with(LINE, ("once", 0, {3: 1}), ("once", 2, {2: 2}))
            world.put_gate(1, 0, 1, OURS, theirs, may)
            self.settle(world)
            world.send(0, 3, 7, "hi")
            # heard at its sender's place, so of kind l
            self.assertEqual(world.log()[-2:], (
                ("heard", world.beat(), 0, 7, 3, 1, ".hi"), ("dropped", world.beat(), "rule", 0, "l", 3, 1),
            ))

    def test_the_kind_that_it_came_with(self):
        world = two_rooms()
        world.enter(0, 4, 2)
        # the place of 4 doesn't know yet where 7 is
        world.send(0, 4, 7, "hi")
        beat = world.beat() + 1
        self.settle(world)
        self.assertEqual(self.rows(world, "dropped"), [("dropped", beat, "rule", 0, "u", 4, 1)])

    def test_to_all_is_not_heard_by_aliases(self):
        world = two_rooms()
        world.enter(0, 4, 1)
        self.settle(world)
        begun = len(world.log())
        world.send(0, 3, None, "all")
        world.send(0, 4, None, "all")
        self.settle(world)
        self.assertEqual({row[3] for row in self.news(world, begun) if row[0] == "heard"}, {3, 4})
        self.assertEqual(self.rows(world, "passed"), [])

    def test_to_one_that_is_not_there(self):
        world = world_with(LINE, ("once", 0, {3: 1}), ("once", 2, {4: 2}))
        world.put_gate(1, 0, 1, OURS, THEIRS, MAY)
        self.settle(world)
        begun, beat = len(world.log()), world.beat()
        world.send(0, 3, 7, "hi")
        self.settle(world)
        self.assertEqual(self.news(world, begun)[2:], [
            ("passed", beat, 0, 0, 3, 1, 1, 8, 1), ("sent", beat, 1, 8, 1, 2, ".hi"),
            ("wrapped", beat, 1, "u", 8, 2, 1, 1, 2, 2),
        ])

    def test_a_doubled_letter_is_passed_as_the_kind_lets_it(self):
        for kind, passed in (("loose", 2), ("once", 1), ("row", 1)):
            world = two_rooms(kind=kind)
            world.send(0, 3, 7, "hi")
            world.step(weave=((world.frames()[0][0], "double"),))
            self.settle(world)
            self.assertEqual(len(self.rows(world, "passed")), passed)
            self.assertEqual(len(world.ear(1, 2)), passed)

    def test_a_closed_gate(self):
        world = two_rooms()
        world.send(0, 3, 7, "hi")
        world.close_gate(0)
        world.step()
        # the alias left, so the letter is gone
        self.assertEqual(world.log()[-1], ("dropped", world.beat(), "gone", 0, "l", 3, 1))
        self.assertEqual(self.rows(world, "passed"), [])

    def test_a_letter_led_on_to_another_place_of_the_hearer(self):
        world = two_rooms(STAR)
        world.send(0, 3, 7, "hi")
        self.settle(world)
        world.send(1, 2, 8, "ho")
        self.steps(world, 2)
        world.move(0, 3, 3)
        self.settle(world)
        self.assertEqual([row[2] for row in world.ear(0, 3)], ["ho"])


class RoundTest(WorldCase):
    """Two gates that lead a letter round between rooms 0 and 1, all in one house."""

    def setUp(self):
        self.world = World(2, ((0, 1, 1, 80),))
        for room in range(2):
            self.world.put_room("once", 0)
        self.world.enter(0, 1, 0)
        # In room 1 it is heard by 10, an alias of the second gate, which leads it back to 10 of room 0.
        self.world.put_gate(
            0, 0, 1, ((10, 10),), ((1, 11), (12, 12), (14, 13)), (("out", 1, 10), ("out", 12, 10), ("out", 14, 10)))
        self.world.put_gate(
            0, 1, 0, ((10, 10),), ((11, 12), (12, 14)), (("out", 11, 10), ("out", 12, 10)))

    def test_led_round_till_the_count_is_done(self):
        world = self.world
        begun = len(world.log())
        world.send(0, 1, 10, "x")
        self.assertEqual(self.news(world, begun), [
            ("sent", 0, 0, 1, 1, 10, ".x"), ("heard", 0, 0, 10, 1, 1, ".x"), ("passed", 0, 0, 0, 1, 1, 1, 11, 1),
            ("sent", 0, 1, 11, 1, 10, ".x"), ("heard", 0, 1, 10, 11, 1, ".x"), ("passed", 0, 1, 1, 11, 1, 0, 12, 1),
            ("sent", 0, 0, 12, 1, 10, ".x"), ("heard", 0, 0, 10, 12, 1, ".x"), ("passed", 0, 0, 0, 12, 1, 1, 12, 1),
            ("sent", 0, 1, 12, 1, 10, ".x"), ("heard", 0, 1, 10, 12, 1, ".x"), ("passed", 0, 1, 1, 12, 1, 0, 14, 1),
            # passed four times, it has none left: heard once more, and dropped without a passed
            ("sent", 0, 0, 14, 1, 10, ".x"), ("heard", 0, 0, 10, 14, 1, ".x"), ("dropped", 0, "count", 0, "l", 14, 1),
        ])

    def test_a_letter_of_no_count_is_not_wrapped(self):
        # From house 0 in room 0 to the gate at house 1, on in room 1 to the gate at house 2, and into room 2.
        for hands, rows in (
            ({5: 2}, [("heard", 2, 5, 9, 1, ".x")]), ({5: 0}, [("dropped", "count", 2, "l", 9, 1)]),
            ({4: 0, 3: 1}, [("dropped", "count", 2, "u", 9, 1)] * 2),
        ):
            world = world_with(LINE, ("once", 0, {1: 0}), ("once", 0, {}), ("once", 0, hands))
            world.put_gate(1, 0, 1, ((6, 7),), ((1, 8),), (("out", 1, 6),))
            world.put_gate(2, 1, 2, ((5, 6),), ((8, 9),), (("out", 8, 5),))
            self.settle(world)
            begun, beat = len(world.log()), world.beat()
            world.send(0, 1, 7, "x")
            self.settle(world)
            self.assertEqual(self.news(world, begun), [
                ("sent", beat, 0, 1, 1, 7, ".x"), ("wrapped", beat, 0, "l", 1, 7, 1, 0, 1, 3),
                ("heard", beat + 1, 0, 7, 1, 1, ".x"), ("passed", beat + 1, 0, 0, 1, 1, 1, 8, 1),
                ("sent", beat + 1, 1, 8, 1, 6, ".x"), ("wrapped", beat + 1, 1, "l", 8, 6, 1, 1, 2, 1),
                ("heard", beat + 2, 1, 6, 8, 1, ".x"), ("passed", beat + 2, 1, 1, 8, 1, 2, 9, 1),
                ("sent", beat + 2, 2, 9, 1, 5, ".x"),
            ] + [(row[0], beat + 2) + row[1:] for row in rows])


class LayerGateTest(WorldCase):
    def test_between_rooms_over_a_room(self):
        world = world_with(PAIR, ("once", 0, {0: 0, 5: 1}))
        for room in (1, 2):
            world.put_room("row", 0, over=0)
            world.enter(room, 3, 5)
        world.put_gate(0, 1, 2, ((3, 7),), ((3, 8),), (("out", 3, 3),))
        self.settle(world)
        self.assertEqual(world.aliases(1), ((7, 0, 1),))
        world.send(1, 3, 7, "hi")
        self.settle(world)
        self.assertEqual(world.ear(2, 3), ((8, 1, "hi"),))
        self.assertEqual([row[2:] for row in self.rows(world, "passed")], [(0, 1, 3, 1, 2, 8, 1)])
        # the gate's place is an edge of both, so that hand of room 0 stays
        self.refused(world, "InUse", (), world.leave, 0, 0)

    def test_a_place_of_a_gate_without_aliases_is_no_edge(self):
        world = world_with(PAIR, ("once", 0, {0: 0, 5: 1}))
        world.put_room("row", 0, over=0)
        world.put_room("row", 0, over=0)
        world.put_gate(5, 1, 2, (), (), ())
        self.assertEqual((world.edges(1), world.edges(2)), ((0,), (0,)))
        self.assertIsNone(world.leave(0, 5))
