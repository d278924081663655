"""Heads, written and read."""

import copy
import unittest
from itertools import product

from tests.samples import ANYTHING, altered
from wrapnets.errors import NetError, NoHead
from wrapnets.heads import is_head, read, written

KINDS = ("l", "u", "a", "f", "h", "t")
HEAD = (2, "l", 3, 7, 0, 5, 12)
LINE = "2.l.3.7.0.5.12:"
NUMBERS_AT = (0, 2, 3, 4, 5, 6)
TEXTS = ("", "a", ".", ":", "::", "!", ".a text", "a:b.c:", " ", LINE, LINE + "x", "!" + LINE + ".a", "0" * 100, "a\nb")


class WrittenTest(unittest.TestCase):
    def test_as_the_document_writes_it(self):
        self.assertEqual(written(HEAD, ""), LINE)
        self.assertEqual(written(HEAD, "some text"), "2.l.3.7.0.5.12:some text")
        self.assertEqual(read("2.l.3.7.0.5.12:some text"), (HEAD, "some text"))

    def test_each_kind(self):
        for kind in KINDS:
            head = altered(HEAD, 1, kind)
            self.assertIs(is_head(head), True)
            self.assertEqual(written(head, "x"), f"2.{kind}.3.7.0.5.12:x")
            self.assertEqual(read(f"2.{kind}.3.7.0.5.12:x"), (head, "x"))

    def test_numbers_at_their_edges(self):
        for at, number in product(NUMBERS_AT, (0, 1, 9, 10, 100, 99999, 100000, 999999, 10 ** 6)):
            head = altered(HEAD, at, number)
            self.assertIs(is_head(head), True)
            self.assertEqual(written(head, "x").split(".")[at].split(":")[0], str(number))
            self.assertEqual(read(written(head, "x")), (head, "x"))
        for number in (0, 10 ** 6):
            head = (number, "t") + (number,) * 5
            self.assertEqual(read(written(head, "")), (head, ""))

    def test_any_text_behind(self):
        for text, kind in product(TEXTS, KINDS):
            head = altered(HEAD, 1, kind)
            self.assertEqual(written(head, text), f"2.{kind}.3.7.0.5.12:" + text)
            self.assertEqual(read(written(head, text)), (head, text))

    def test_heads_within_heads(self):
        text = "innermost"
        for number in range(5):
            text = written(altered(HEAD, 4, number), text)
        for number in (4, 3, 2, 1, 0):
            head, text = read(text)
            self.assertEqual(head, altered(HEAD, 4, number))
        self.assertEqual(text, "innermost")

    def test_what_read_tells_is_a_pair_of_a_head_and_a_text(self):
        told = read(LINE + "x")
        self.assertIs(type(told), tuple)
        self.assertIs(type(told[0]), tuple)
        self.assertEqual([type(part) for part in told[0]], [int, str, int, int, int, int, int])
        self.assertIs(type(told[1]), str)


class ReadTest(unittest.TestCase):
    def refused(self, thing):
        ahead = copy.deepcopy(thing)
        with self.assertRaises(NoHead):
            read(thing)
        self.assertEqual(thing, ahead)

    def test_no_text_at_all(self):
        for thing in ANYTHING + [HEAD, (HEAD, ""), [LINE], (LINE,), {LINE: ""}, LINE.encode()]:
            self.refused(thing)
        self.assertTrue(issubclass(NoHead, NetError))

    def test_noughts_ahead_and_other_ways_to_write_a_number(self):
        parts = LINE[:-1].split(".")
        words = ["00", "01", "007", "0" * 7, "00000001", "+1", "-1", "-0", " 1", "1 ", "1_0", "1e3", "x", "0x1", "", " ",
                 "1.0", "l", "\u0661", "\u00b2", "1\n"]
        for at, word in product(NUMBERS_AT, words):
            self.refused(".".join(parts[:at] + [word] + parts[at + 1:]) + ":x")

    def test_numbers_above_the_greatest(self):
        parts = LINE[:-1].split(".")
        for at, number in product(NUMBERS_AT, (10 ** 6 + 1, 9999999, 10 ** 7, 10 ** 29, int("9" * 180))):
            self.refused(".".join(parts[:at] + [str(number)] + parts[at + 1:]) + ":x")
        self.refused("2.l.3.7.0.5." + "9" * 5000 + ":")

    def test_another_kind(self):
        for kind in ("", "L", "x", "ll", "lu", "luafht", "0", "l ", " l", "here", "b", "None"):
            self.refused(f"2.{kind}.3.7.0.5.12:x")

    def test_a_part_too_few_or_too_many(self):
        parts = LINE[:-1].split(".")
        for at in range(7):
            self.refused(".".join(parts[:at] + parts[at + 1:]) + ":")
            self.refused(".".join(parts[:at] + ["1"] + parts[at:]) + ":")
            self.refused(".".join(parts[:at] + [""] + parts[at:]) + ":")
        self.refused("." + LINE)
        self.refused("2.l.3.7.0.5.12.:")

    def test_a_sign_more_or_less(self):
        for at in range(len(LINE)):
            short = LINE[:at] + LINE[at + 1:]
            # of 12 a figure may be left out: it is another number then
            if at in (12, 13):
                self.assertEqual(read(short)[0][6], int(short[12]))
            else:
                self.refused(short)
            for sign in (" ", "x", "-", ":", ".", "\n"):
                if at < len(LINE) - 1 or sign != ":":
                    if not (sign == ":" and at == 13):
                        self.refused(LINE[:at] + sign + LINE[at:])
        self.assertEqual(read("2.l.3.7.0.5.1:2:"), ((2, "l", 3, 7, 0, 5, 1), "2:"))
        self.refused(" " + LINE)
        self.refused("!" + LINE)
        self.refused(LINE[:-1])
        self.refused(LINE[:-1] + ";x")
        self.refused(":" + LINE)

    def test_just_what_can_be_written_is_read(self):
        signs = "01l.:x"
        for word in product(signs, repeat=4):
            text = "1.l.1.1.1." + "".join(word)
            try:
                head, behind = read(text)
            except NoHead:
                continue
            self.assertIs(is_head(head), True)
            self.assertEqual(written(head, behind), text)


class HeadTest(unittest.TestCase):
    def wrong(self, thing):
        ahead = copy.deepcopy(thing)
        self.assertIs(is_head(thing), False, thing)
        self.assertEqual(thing, ahead)

    def test_right_ones(self):
        for kind in KINDS:
            self.assertIs(is_head(altered(HEAD, 1, kind)), True)

    def test_anything(self):
        for thing in ANYTHING + [LINE, list(HEAD), (HEAD,), HEAD[:6], HEAD[1:], HEAD + (0,), dict(enumerate(HEAD)), "2l37051"]:
            self.wrong(thing)

    def test_anything_as_a_part(self):
        for at, thing in product(range(7), ANYTHING):
            self.wrong(altered(HEAD, at, thing))

    def test_numbers_out_of_bounds(self):
        for at, number in product(NUMBERS_AT, (-1, -(10 ** 6), 10 ** 6 + 1, 10 ** 7)):
            self.wrong(altered(HEAD, at, number))

    def test_truths_are_no_numbers(self):
        for at, truth in product(range(7), (True, False)):
            self.wrong(altered(HEAD, at, truth))

    def test_other_kinds(self):
        for kind in ("", "L", "x", "ll", "lu", "luafht", 0, 1, ("l",), ["l"], KINDS):
            self.wrong(altered(HEAD, 1, kind))
