"""A desk: what is said at it, and what it answers."""

import unittest

from tests.samples import ANYTHING
from tests.said import said
from tests.world_cases import LINE, PAIR, WorldCase, told_of, world_with
from wrapnets.bounds import BEATS, DEEDS, GATES, HANDS, ROOMS
from wrapnets.desks import Desk
from wrapnets.worlds import World

# Lines of each deed, with and without what may be left out, with their answers.
DONE = (
    ("put_room once 0", "done 0"), ("put_room row 1 none", "done 1"), ("enter 0 3 0", "done"), ("enter 0 4 1", "done"),
    ("put_room loose 3 0", "done 2"), ("enter 2 1 4", "done"), ("step", "done"), ("step 2.hold", "done"),
    ("step -", "done"), ("send 0 3 4 =hi", "done 1"), ("send 0 3 none =", "done 2"), ("send 0 3 3 =a_b=c__", "done 3"),
    ("move 0 4 2", "done"), ("put_gate 1 0 1 2.7 3.8 out.3.2,in.2.3", "done 0"), ("put_gate 0 0 1 - - -", "done 1"),
    ("fall 1 0", "done"), ("rise 0 1", "done"), ("leave 2 1", "done"), ("close_gate 0", "done"),
    ("close_room 2", "done"),
)
CALLS = (
    ("put_room", ("once", 0), {}), ("put_room", ("row", 1), {"over": None}), ("enter", (0, 3, 0), {}),
    ("enter", (0, 4, 1), {}), ("put_room", ("loose", 3), {"over": 0}), ("enter", (2, 1, 4), {}), ("step", (), {}),
    ("step", (), {"weave": ((2, "hold"),)}), ("step", (), {"weave": ()}), ("send", (0, 3, 4, "hi"), {}),
    ("send", (0, 3, None, ""), {}), ("send", (0, 3, 3, "a b=c  "), {}), ("move", (0, 4, 2), {}),
    ("put_gate", (1, 0, 1, ((2, 7),), ((3, 8),), (("out", 3, 2), ("in", 2, 3))), {}),
    ("put_gate", (0, 0, 1, (), (), ()), {}), ("fall", (1, 0), {}), ("rise", (0, 1), {}), ("leave", (2, 1), {}),
    ("close_gate", (0,), {}), ("close_room", (2,), {}),
)
NO_FIGURES = ("", "-1", "+1", "01", "00", "1.0", "one", "1a", "none", "None", "=1", "1_0", "-", "0x1", " ", "\u0661", "1,")


class DeskCase(WorldCase):
    def says(self, desk, line, answer):
        self.assertEqual(desk.say(line), answer, line)

    def unheard(self, world, line, answer="no line"):
        """The line is answered so, and nothing is other."""
        ahead = told_of(world)
        self.says(Desk(world), line, answer)
        self.assertEqual(told_of(world), ahead, line)


class DeedTest(DeskCase):
    def test_each_deed(self):
        world, other = World(*LINE), World(*LINE)
        desk = Desk(world)
        for (line, answer), (word, things, named) in zip(DONE, CALLS):
            self.says(desk, line, answer)
            told = getattr(other, word)(*things, **named)
            self.assertEqual(answer, "done" if told is None else f"done {told}")
            self.assertEqual(told_of(world), told_of(other))

    def test_methods_are_the_classes_own(self):
        self.assertIn("say", vars(Desk))

    def test_two_desks_at_one_world(self):
        world = World(*PAIR)
        self.says(Desk(world), "put_room once 0", "done 0")
        self.says(Desk(world), "put_room once 0", "done 1")
        self.assertEqual(len(world.rooms()), 2)

    def test_texts(self):
        world = world_with(PAIR, ("loose", 0, {3: 0}))
        for text in ("", "=", "==", " ", "a b", "a.b,c-d", "none", "-", "twelve signs", "   ", "~!#"):
            line = said("send", (0, 3, 3, text))
            self.assertTrue(Desk(world).say(line).startswith("done "))
            self.assertEqual(world.ear(0, 3)[-1][2], text)
        self.unheard(world, "send 0 3 3 =thirteensigns", "no BadText")
        self.unheard(world, "send 0 3 3 =a%", "no BadText")
        self.unheard(world, "send 0 3 3 =a\tb", "no BadText")
        self.unheard(world, "send 0 3 3 =\u00e9", "no BadText")


class NoLineTest(DeskCase):
    def setUp(self):
        self.world = world_with(PAIR, ("once", 0, {3: 0, 4: 1}), ("row", 0, {2: 0}))
        self.world.send(0, 3, 4, "x")

    def test_other_things_than_texts(self):
        for thing in ANYTHING + [5, ["step"], ("step",), {"step": 1}, b"step"]:
            if not isinstance(thing, str):
                self.unheard(self.world, thing)

    def test_no_words_of_it(self):
        for line in (
            "", " ", "  ", "steps", "Step", "STEP", "batch", "batch -", "twin", "view", "log", "deed step -", "0", "done",
            "put-room once 0", "=x", "-", "none", "world", "rooms", "say step", "step()", "frames", "__len__",
        ):
            self.unheard(self.world, line)

    def test_blanks(self):
        for line in ("step", "beat", "quiet", "ear 0 3", "where 0 3 1", "send 0 3 4 =x", "fall 0 1", "put_room once 0"):
            self.unheard(self.world, " " + line)
            self.unheard(self.world, line + " ")
            self.unheard(self.world, line.replace(" ", "  ", 1) if " " in line else "  " + line)
            self.unheard(self.world, "\n" + line)
            self.unheard(self.world, line.replace(" ", "\t") if " " in line else "\t" + line)
        self.unheard(self.world, "send 0 3 4 =x y")

    def test_too_few_and_too_many_words(self):
        for line in (
            "put_room once", "put_room once 0 none 0", "close_room", "close_room 0 0", "enter 0 5", "enter 0 5 0 0", "leave 0",
            "leave 0 3 0", "move 0 3", "move 0 3 1 1", "send 0 3 4", "send 0 3 =x", "send 0 3 4 =x =y", "put_gate 0 0 1 - -",
            "put_gate 0 0 1 - - - -", "close_gate", "close_gate 0 0", "fall 0", "fall 0 1 2", "rise 0", "rise", "step - -",
            "where 0 3", "where 0 3 1 1", "where", "ear 0", "ear 0 3 1", "ear", "beat 0", "quiet 0", "beat -", "put_room",
        ):
            self.unheard(self.world, line)

    def test_numbers(self):
        for line in (
            "close_room {}", "enter {} 5 0", "enter 0 {} 0", "enter 0 5 {}", "leave {} 3", "leave 0 {}", "move {} 3 1",
            "move 0 {} 1", "move 0 3 {}", "send {} 3 4 =x", "send 0 {} 4 =x", "put_gate {} 0 1 - - -", "put_gate 0 {} 1 - - -",
            "put_gate 0 0 {} - - -", "close_gate {}", "fall {} 1", "fall 0 {}", "rise {} 1", "rise 0 {}", "where {} 3 1",
            "where 0 {} 1", "where 0 3 {}", "ear {} 3", "ear 0 {}", "put_room once {}", "put_room once {} none",
        ):
            for figures in NO_FIGURES:
                self.unheard(self.world, line.format(figures))

    def test_none_of_a_hearer_and_of_over_alone(self):
        for figures in NO_FIGURES:
            if figures != "none":
                self.unheard(self.world, f"send 0 3 {figures} =x")
                self.unheard(self.world, f"put_room once 0 {figures}")
        for line in ("None", "nobody", "NONE"):
            self.unheard(self.world, f"send 0 3 {line} =x")

    def test_great_numbers_are_numbers(self):
        figures = "1" + "0" * 29
        self.unheard(self.world, f"close_room {figures}", "no NoRoom")
        self.unheard(self.world, f"enter 0 {figures} 0", "no NoNumber")
        self.unheard(self.world, f"fall {figures} {figures}", "no NoRoad")
        self.unheard(self.world, f"step {figures}.lose", "no BadWeave")

    def test_texts_without_their_sign(self):
        for text in ("x", "", "-", "none", "0", "x=y", "'x'", "\"x\""):
            self.unheard(self.world, f"send 0 3 4 {text}")

    def test_kinds_and_words_by_small_letters(self):
        for word in ("Once", "ONCE", "once1", "on_ce", "on-ce", "=once", "1", "", "o.nce", "\u00e9"):
            self.unheard(self.world, f"put_room {word} 0")
            self.unheard(self.world, f"step 0.{word}")
            self.unheard(self.world, f"put_gate 0 0 1 - - {word}.1.2")
        self.unheard(self.world, "put_room rows 0", "no BadRoom")
        self.unheard(self.world, "put_room none 0", "no BadRoom")
        self.unheard(self.world, "put_gate 0 0 1 - - on.1.2", "no BadGate")

    def test_rows_of_a_wrong_number_or_kind_of_parts(self):
        for row in ("1", "1.2.3", "1.", ".1", ".", "1..2", "a.1", "1.a", "1.-1", "01.2", "1.02", "1,2", "1-2", "none", "", "--"):
            for line in ("put_gate 0 0 1 {} - -", "put_gate 0 0 1 - {} -"):
                self.unheard(self.world, line.format(row))
                self.unheard(self.world, line.format("1.7," + row))
                self.unheard(self.world, line.format(row + ",1.7"))
        for row in ("out", "out.1", "out.1.2.3", "1.out.2", "1.2", "1.2.out", "out.a.1", "out.1.b", "out.01.2", "", "out..1"):
            self.unheard(self.world, f"put_gate 0 0 1 - - {row}")
            self.unheard(self.world, f"put_gate 0 0 1 - - out.1.2,{row}")
        frame = self.world.frames()[0][0]
        for row in ("1", "lose", "lose.1", "1.lose.2", "1.2", "1.", ".lose", "01.lose", "-1.lose", "1.Lose", "", "--", "none"):
            self.unheard(self.world, f"step {row}")
            self.unheard(self.world, f"step {frame}.lose,{row}")
        self.unheard(self.world, "step -,-")
        self.unheard(self.world, f"step {frame}.lose,")

    def test_all_of_a_line_is_looked_at_ahead_of_the_deed(self):
        self.unheard(self.world, "send 99 99 99 x")
        self.unheard(self.world, "put_gate 9 9 9 1.2 1.2 out.1")


class RefusedTest(DeskCase):
    def test_each_refusal(self):
        world = world_with(LINE, ("once", 1, {0: 0, 5: 2}), ("row", 0, {0: 0}))
        world.put_room("loose", 5, over=0)
        for line, name in (
            ("put_room never 0", "BadRoom"), ("put_room once 3", "BadRoom"), ("put_room once 0 2", "BadRoom"),
            ("close_room 3", "NoRoom"), ("close_room 0", "InUse"), ("enter 9 1 0", "NoRoom"), ("enter 0 16 0", "NoNumber"),
            ("enter 0 5 0", "Taken"), ("enter 0 1 3", "NoPlace"), ("leave 9 0", "NoRoom"), ("leave 0 1", "NoHand"),
            ("leave 0 5", "InUse"), ("move 9 0 0", "NoRoom"), ("move 0 1 0", "NoHand"), ("move 0 5 3", "NoPlace"),
            ("send 9 0 0 =x", "NoRoom"), ("send 0 1 0 =x", "NoHand"), ("send 0 5 16 =x", "NoNumber"),
            ("send 0 5 0 =1234567890123", "BadText"), ("put_gate 0 9 1 - - -", "NoRoom"), ("put_gate 0 0 9 - - -", "NoRoom"),
            ("put_gate 0 0 0 - - -", "BadGate"), ("put_gate 3 0 1 - - -", "NoPlace"), ("put_gate 0 0 1 1.5 - -", "BadGate"),
            ("put_gate 0 0 1 - 1.0 -", "BadGate"), ("put_gate 0 0 1 - - out.1.16", "BadGate"), ("close_gate 0", "NoGate"),
            ("fall 0 2", "NoRoad"), ("rise 0 1", "Same"), ("step 0.lose", "BadWeave"),
            ("put_gate 0 0 1 1.7,1.8 - -", "BadGate"),
            ("where 9 0 0", "NoRoom"), ("where 3 0 0", "NoRoom"), ("where 0 0 0", "NoLetter"), ("where 0 99 1", "NoLetter"),
            ("ear 9 0", "NoRoom"), ("ear 0 1", "NoHand"),
        ):
            self.unheard(world, line, "no " + name)

    def test_too_many_rows_are_refused_by_the_deed(self):
        world = world_with(PAIR, ("once", 0, {}), ("row", 0, {}))
        pairs = ",".join(f"{k}.{k}" for k in range(HANDS + 1))
        rules = ",".join(["in.1.2"] * (2 * HANDS + 1))
        self.unheard(world, f"put_gate 0 0 1 {pairs} - -", "no BadGate")
        self.unheard(world, f"put_gate 0 0 1 - - {rules}", "no BadGate")
        self.unheard(world, "step " + ",".join(f"{k}.lose" for k in range(21)), "no BadWeave")

    def test_full(self):
        world = World(*PAIR)
        for room in range(ROOMS):
            world.put_room("once", 0)
        self.unheard(world, "put_room once 0", "no Full")
        for hand in range(HANDS):
            world.enter(0, hand, 0)
        self.unheard(world, "enter 0 9 0", "no Full")
        for gate in range(GATES):
            world.put_gate(0, 0, 1, (), (), ())
        self.unheard(world, "put_gate 0 0 1 - - -", "no Full")

    def test_long(self):
        world = world_with(PAIR, ("once", 0, {3: 0}))
        while len(world) < DEEDS:
            world.send(0, 3, 3, "")
        self.unheard(world, "send 0 3 3 =", "no Long")
        self.unheard(world, "close_room 77", "no Long")
        self.unheard(world, "close_room", "no line")
        while world.beat() < BEATS:
            world.step()
        self.unheard(world, "step", "no Long")
        self.unheard(world, "beat", str(BEATS))

    def test_busy(self):
        world = world_with(PAIR, ("once", 0, {3: 0}))
        desk = Desk(world)
        heard = []
        lines = ("step", "send 0 3 3 =x", "close_room 9", "beat", "quiet", "ear 0 3", "where 0 3 1", "steps")
        world.batch((("send", 0, 3, 3, "y"),), tell=lambda each: heard.extend([desk.say(line) for line in lines]))
        self.assertEqual(heard, ["no Busy", "no Busy", "no Busy", "0", "yes", "3.1=y", "heard 1", "no line"])

    def test_behind_a_broken_batch(self):
        world = world_with(PAIR, ("once", 0, {3: 0}))
        desk = Desk(world)
        self.assertRaises(ValueError, world.batch, (("step",), ("step", 1)))
        self.says(desk, "beat", "0")
        self.says(desk, "step", "done")
        self.says(desk, "beat", "1")


class WhereTest(DeskCase):
    def where(self, world, room, sender, number, answer):
        self.unheard(world, f"where {room} {sender} {number}", answer)

    def test_heard_and_under_way(self):
        world = world_with(LINE, ("loose", 1, {3: 0, 4: 2}))
        world.send(0, 3, 4, "x")
        self.where(world, 0, 3, 1, "under way")
        world.step(weave=((world.frames()[0][0], "double"),))
        self.where(world, 0, 3, 1, "under way")
        world.step()
        self.where(world, 0, 3, 1, "heard 1 under way")
        self.settle(world)
        # twice heard by one number
        self.assertEqual(len(world.ear(0, 4)), 2)
        self.where(world, 0, 3, 1, "heard 1")

    def test_how_many_numbers_heard_it(self):
        world = world_with(PAIR, ("loose", 0, {3: 0, 4: 0, 5: 1, 6: 1}))
        world.send(0, 3, None, "x")
        self.where(world, 0, 3, 1, "heard 1 under way")
        world.step()
        self.where(world, 0, 3, 1, "heard 3")

    def test_dropped_with_the_last_word(self):
        world = world_with(LINE, ("loose", 1, {3: 0, 4: 2}))
        world.send(0, 3, 4, "x")
        world.step(weave=((world.frames()[0][0], "lose"),))
        self.where(world, 0, 3, 1, "dropped lost")
        world.send(0, 3, None, "x")
        [one, two] = [row[0] for row in world.frames()]
        world.step(weave=((one, "double"), (two, "lose")))
        self.where(world, 0, 3, 2, "dropped lost under way")
        world.fall(0, 1)
        self.where(world, 0, 3, 2, "dropped fallen")
        self.where(world, 0, 3, 1, "dropped lost")

    def test_heard_dropped_and_under_way(self):
        world = world_with(PAIR, ("loose", 0, {3: 0, 4: 0, 5: 1}))
        world.send(0, 3, None, "x")
        world.step(weave=((world.frames()[0][0], "double"),))
        world.step(weave=((world.frames()[0][0], "double"),))
        world.step(weave=((world.frames()[0][0], "double"),))
        last = world.frames()[-1][0]
        world.step(weave=((last, "double"),))
        self.where(world, 0, 3, 1, "heard 2 under way")
        world.step(weave=((world.frames()[-1][0], "lose"),))
        self.where(world, 0, 3, 1, "heard 2 dropped lost")

    def test_all_at_once(self):
        world = world_with(PAIR, ("once", 0, {3: 0, 4: 0, 5: 1}))
        world.send(0, 3, None, "x")
        world.step(weave=((world.frames()[0][0], "double"),))
        world.step(weave=((world.frames()[0][0], "double"),))
        self.where(world, 0, 3, 1, "heard 2 dropped again under way")

    def test_nowhere(self):
        world = world_with(LINE, ("once", 1, {3: 0}))
        world.send(0, 3, 9, "x")
        self.where(world, 0, 3, 1, "under way")
        self.settle(world)
        self.where(world, 0, 3, 1, "nowhere")
        world.close_room(0)
        self.where(world, 0, 3, 1, "nowhere")

    def test_by_what_bears_it(self):
        world = world_with(PAIR, ("once", 0, {0: 0, 5: 1}))
        world.put_room("loose", 0, over=0)
        world.enter(1, 7, 0)
        world.enter(1, 8, 5)
        self.settle(world)
        world.send(1, 8, 7, "x")
        self.where(world, 1, 8, 1, "under way")
        self.where(world, 0, 5, 2, "under way")
        world.step(weave=((world.frames()[0][0], "double"),))
        self.where(world, 1, 8, 1, "heard 1 under way")
        world.step()
        # dropped in the room beneath
        self.where(world, 1, 8, 1, "heard 1 dropped again")
        self.where(world, 0, 5, 2, "heard 1 dropped again")
        world.send(1, 8, 7, "y")
        world.fall(0, 1)
        self.where(world, 1, 8, 2, "dropped fallen")

    def test_tells_with_a_letters_number_are_none_of_it(self):
        world = world_with(PAIR, ("once", 0, {3: 0}))
        world.send(0, 3, 3, "x")
        world.enter(0, 4, 1)
        world.step()
        # the tell of 3 to the new edge has the number of its last letter
        self.assertEqual(world.log()[-1][3:7], ("t", 3, 0, 1))
        self.where(world, 0, 3, 1, "heard 1")
        world.fall(0, 1)
        self.where(world, 0, 3, 1, "heard 1")

    def test_passed_on(self):
        world = world_with(LINE, ("once", 0, {3: 0}), ("once", 2, {2: 2}))
        world.put_gate(1, 0, 1, ((2, 7),), ((3, 8),), (("out", 3, 2),))
        self.settle(world)
        world.send(0, 3, 7, "x")
        world.step()
        self.where(world, 0, 3, 1, "heard 1")
        self.where(world, 1, 8, 1, "under way")


class AskedTest(DeskCase):
    def test_ear(self):
        world = world_with(PAIR, ("loose", 0, {3: 0, 4: 0}))
        self.unheard(world, "ear 0 3", "-")
        world.send(0, 3, 3, "a b")
        self.unheard(world, "ear 0 3", "3.1=a_b")
        world.send(0, 4, 3, "")
        world.send(0, 4, 3, "c_d=")
        self.unheard(world, "ear 0 3", "3.1=a_b 4.1= 4.2=c_d=")
        self.unheard(world, "ear 0 4", "-")

    def test_beat_and_quiet(self):
        world = world_with(PAIR, ("loose", 0, {3: 0, 4: 1}))
        self.unheard(world, "beat", "2")
        self.unheard(world, "quiet", "yes")
        world.send(0, 3, 4, "x")
        self.unheard(world, "quiet", "no")
        world.step()
        self.unheard(world, "beat", "3")
        self.unheard(world, "quiet", "yes")


if __name__ == "__main__":
    unittest.main()
