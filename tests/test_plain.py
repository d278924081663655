"""The judge of plain nets."""

import random
import unittest

from tests.samples import ANYTHING, altered
from wrapnets.filters import KINDS
from wrapnets.plain import first_wrong, is_plain

# Hands 0, 1 and 2, an alias 9; letters to one, to all, to oneself, to the alias, to nobody; one lost, one still open.
RIGHT = (
    ("come", 0, "hand"), ("come", 1, "hand"), ("send", 0, 3, 1, "a"), ("come", 9, "alias"), ("hear", 1, 0, 3, "a"),
    ("come", 2, "hand"), ("send", 1, 0, None, ""), ("hear", 2, 1, 0, ""), ("hear", 0, 1, 0, ""),
    ("send", 2, 7, 2, "me"), ("hear", 2, 2, 7, "me"), ("send", 0, 4, 9, "to 9"), ("hear", 9, 0, 4, "to 9"),
    ("send", 0, 5, 30, "nobody"), ("send", 0, 6, 2, "lost"), ("lose", 0, 6), ("go", 2), ("send", 0, 8, 2, "late"),
    ("come", 2, "hand"), ("send", 9, 0, 0, "open"), ("lose", 1, 0), ("hear", 2, 0, 6, "lost"),
)
OPEN = ((9, 0),)
NO_NUMBERS = [thing for thing in ANYTHING if not isinstance(thing, int) or thing < 0 or thing is True or thing is False]


class RightTest(unittest.TestCase):
    def both(self, kind, paper, at):
        self.assertEqual(first_wrong(kind, paper), at)
        self.assertIs(is_plain(kind, paper), at is None)

    def test_right_papers(self):
        for kind in KINDS:
            self.both(kind, (RIGHT, OPEN), None)
            self.both(kind, ((), ()), None)

    def test_each_row_out_or_twice(self):
        # Of each row the one where it is missed, or the end; all others are not missed.
        end = len(RIGHT)
        missing = {
            0: 2, 1: 4, 2: 4, 3: 12, 4: end, 5: 7, 6: 7, 9: 10, 10: end, 11: 12, 12: end, 14: 15, 16: 18, 18: 21, 19: end,
        }
        for at in range(len(RIGHT)):
            rows = RIGHT[:at] + RIGHT[at + 1:]
            with self.subTest(RIGHT[at]):
                self.both("once", (rows, OPEN), missing[at] - 1 if at in missing else None)
        for at, row in enumerate(RIGHT):
            rows = RIGHT[:at + 1] + RIGHT[at:]
            again = {"lose": None, "hear": None}.get(row[0], at + 1)
            self.both("loose", (rows, OPEN), again)
            self.both("once", (rows, OPEN), None if row[0] == "lose" else at + 1)
            self.both("row", (rows, OPEN), None if row[0] == "lose" else at + 1)

    def test_come_and_go(self):
        self.both("once", ((("come", 0, "hand"), ("come", 0, "alias")), ()), 1)
        self.both("once", ((("go", 0),), ()), 0)
        self.both("once", ((("come", 0, "hand"), ("go", 0), ("go", 0)), ()), 2)
        self.both("once", ((("come", 0, "hand"), ("go", 0), ("come", 0, "alias"), ("go", 0)), ()), None)
        self.both("once", ((("come", 10 ** 29, "alias"),), ()), None)

    def test_numbers_sent_rise_for_ever(self):
        rows = (("come", 0, "hand"), ("send", 0, 5, 1, ""), ("go", 0), ("come", 0, "hand"))
        for number, at in ((6, None), (5, 4), (4, 4), (0, 4), (10 ** 29, None)):
            self.both("loose", (rows + (("send", 0, number, 1, ""),), ()), at)

    def test_heard_of_whom_and_by_whom(self):
        rows = (
            ("come", 0, "hand"), ("come", 1, "hand"), ("come", 2, "alias"), ("send", 0, 0, 1, "x"),
            ("send", 0, 1, None, "y"), ("send", 0, 2, 0, "z"), ("send", 1, 2, 2, "w"),
        )
        still_open = ((0, 0), (0, 1), (0, 2), (1, 2))
        right = [(1, 0, 0, "x"), (1, 0, 1, "y"), (0, 0, 2, "z"), (2, 1, 2, "w")]
        for row in right:
            self.both("row", (rows + (("hear",) + row,), still_open), None)
        wrong = [
            (0, 0, 0, "x"), (2, 0, 0, "x"), (1, 0, 0, "y"), (1, 0, 0, ""), (1, 0, 0, "x "), (1, 0, 3, "x"),
            (1, 1, 0, "x"), (3, 0, 0, "x"), (0, 0, 1, "y"), (2, 0, 1, "y"), (1, 0, 2, "z"), (1, 2, 0, "x"),
            (1, 1, 2, "w"), (0, 1, 2, "w"),
        ]
        for row in wrong:
            self.both("loose", (rows + (("hear",) + row,), still_open), len(rows))

    def test_heard_behind_its_sent_alone(self):
        rows = (("come", 0, "hand"), ("hear", 0, 0, 0, "x"), ("send", 0, 0, 0, "x"))
        self.both("loose", (rows, ()), 1)
        self.both("loose", ((rows[0], rows[2], rows[1]), ()), None)
        self.both("loose", ((rows[0], rows[2], ("go", 0), rows[1]), ((0, 0),)), 3)

    def test_kinds(self):
        start = (("come", 0, "hand"), ("come", 1, "hand"), ("send", 0, 0, 1, "a"), ("send", 0, 1, 1, "b"))
        one, two = ("hear", 1, 0, 0, "a"), ("hear", 1, 0, 1, "b")
        for kind, rows, at in (
            ("loose", (one, two, one, one), None), ("once", (one, two, one), 6), ("row", (one, two, one), 6),
            ("loose", (two, one), None), ("once", (two, one), None), ("row", (two, one), 5),
            ("row", (one, one), 5), ("once", (one, one), 5), ("row", (one, two), None),
            # a number keeps what it heard, though it goes and comes again
            ("once", (one, two, ("go", 1), ("come", 1, "hand"), one), 8),
            ("row", (one, two, ("go", 1), ("come", 1, "hand"), two), 8),
        ):
            self.both(kind, (start + rows, ()), at)

    def test_each_has_its_own_turn(self):
        rows = (
            ("come", 0, "hand"), ("come", 1, "hand"), ("come", 2, "hand"), ("send", 0, 5, None, "a"),
            ("send", 1, 2, None, "b"), ("hear", 2, 0, 5, "a"), ("hear", 2, 1, 2, "b"), ("hear", 1, 0, 5, "a"),
            ("hear", 0, 1, 2, "b"),
        )
        for kind in KINDS:
            self.both(kind, (rows, ()), None)


class EndTest(unittest.TestCase):
    def both(self, kind, paper, at):
        self.assertEqual(first_wrong(kind, paper), at)
        self.assertIs(is_plain(kind, paper), at is None)

    def test_due_and_not_heard(self):
        start = (("come", 0, "hand"), ("come", 1, "hand"), ("come", 2, "hand"), ("come", 3, "alias"))
        for hearer, due in ((1, (1,)), (0, (0,)), (3, (3,)), (None, (1, 2)), (4, ())):
            sent = start + (("send", 0, 0, hearer, "x"),)
            heard = tuple(("hear", hand, 0, 0, "x") for hand in due)
            self.both("once", (sent + heard, ()), None)
            for at in range(len(heard)):
                rows = sent + heard[:at] + heard[at + 1:]
                self.both("once", (rows, ()), len(rows))
                self.both("once", (rows, ((0, 0),)), None)
                self.both("once", (rows + (("lose", 0, 0),), ()), None)
                # those that went later were due all the same
                self.both("once", (rows + (("go", 1), ("go", 2)), ()), len(rows) + 2)

    def test_those_that_were_not_there_as_it_was_sent_are_not_due(self):
        rows = (("come", 0, "hand"), ("come", 1, "hand"), ("go", 1))
        later = (("come", 1, "hand"), ("come", 2, "hand"))
        for hearer in (1, 2, None):
            self.both("row", (rows + (("send", 0, 0, hearer, "x"),) + later, ()), None)

    def test_open_ones(self):
        rows = (("come", 0, "hand"), ("send", 0, 2, 5, ""), ("send", 0, 3, 5, ""), ("come", 1, "hand"), ("send", 1, 0, 5, ""))
        right = ((0, 2), (0, 3), (1, 0))
        for still_open in (right, right[1:], right[:2], ()):
            self.both("once", (rows, still_open), None)
        wrong = [list(right), right[::-1], right + right[2:], ((0, 2), (0, 2)), ((0, 1),), ((2, 0),), ((0, 2, 0),), (0, 2)]
        wrong += [((0, 3), (0, 2)), ((False, 2),), ((0, 2), [0, 3]), right[:2] + ((1, 1),), ((0,),)]
        wrong += [thing for thing in ANYTHING if thing != ()]
        for thing in wrong:
            self.both("once", (rows, thing), len(rows))

    def test_the_first_wrong_row_comes_ahead_of_the_end(self):
        self.both("once", (RIGHT[:5] + (("go", 7),), None), 5)
        self.both("once", ((("send", 0, 0, 0, ""),), 5), 0)


class AnythingTest(unittest.TestCase):
    def test_rows_of_anything(self):
        for thing in ANYTHING + [("come",), ("come", 0), ("lose", 0, 3, 0), ["lose", 0, 3], ("Lose", 0, 3), ("", 0, 3)]:
            for at in range(len(RIGHT) + 1):
                paper = (RIGHT[:at] + (thing,) + RIGHT[at:], OPEN)
                self.assertEqual(first_wrong("loose", paper), at)
                self.assertIs(is_plain("loose", paper), False)

    def test_each_part_of_each_row(self):
        for at, row in enumerate(RIGHT):
            for place in range(len(row)):
                for thing in NO_NUMBERS:
                    is_text = place == 4 and isinstance(thing, str)
                    is_to_all = row[0] == "send" and place == 3 and thing is None
                    if is_text or is_to_all:
                        continue
                    rows = altered(RIGHT, at, altered(row, place, thing))
                    self.assertEqual(first_wrong("once", (rows, OPEN)), at, (row, place, thing))
            for row in (row + (0,), row[:-1], list(row), (row,)):
                self.assertEqual(first_wrong("once", (altered(RIGHT, at, row), OPEN)), at)

    def test_texts_are_any(self):
        rows = (("come", 0, "hand"), ("send", 0, 0, 0, "%\n\u00e9" * 50), ("hear", 0, 0, 0, "%\n\u00e9" * 50))
        self.assertTrue(is_plain("row", (rows, ())))

    def test_is_plain_of_anything(self):
        for thing in ANYTHING + [(RIGHT,), (RIGHT, OPEN, ()), [RIGHT, OPEN], (list(RIGHT), OPEN), RIGHT, (OPEN, RIGHT)]:
            for kind in KINDS:
                self.assertIs(is_plain(kind, thing), False)

    def test_what_is_no_kind(self):
        for kind in ANYTHING + ["Once", "l", ("once",), ["row"]]:
            self.assertIs(is_plain(kind, (RIGHT, OPEN)), False)
            self.assertIs(is_plain(kind, ((), ())), False)
            self.assertEqual(first_wrong(kind, (RIGHT, OPEN)), 0)

    def test_nothing_that_is_handed_in_is_changed(self):
        thing = [["x"], {"k": [1]}]
        first_wrong("once", ((("come", thing, "hand"),), thing))
        is_plain(thing, thing)
        self.assertEqual(thing, [["x"], {"k": [1]}])

    def test_drawn_papers_beside_a_judge_written_once_more(self):
        source = random.Random(1)
        seen = set()
        for many in range(4000):
            kind, paper = source.choice(KINDS), drawn_paper(source)
            told = first_wrong(kind, paper)
            self.assertEqual(told, judged(kind, *paper), (kind, paper))
            seen.add(told)
        self.assertGreater(len(seen), 8)
        self.assertIn(None, seen)


def drawn_paper(source):
    rows = []
    sent = [(0, 0, None, "a")]
    for many in range(source.randint(0, 12)):
        hand, number = source.randrange(3), source.randrange(6)
        word = source.choice(("come", "come", "go", "send", "send", "hear", "hear", "hear", "lose"))
        letter = source.choice(sent)
        row = {
            "come": (hand, source.choice(("hand", "hand", "alias"))), "go": (hand,),
            "send": (hand, many, source.choice((None, 0, 1, 2)), source.choice("ab")),
            "hear": (hand if letter[2] is None else letter[2], letter[0], letter[1], letter[3]), "lose": letter[:2],
        }[word]
        if judged("loose", tuple(rows + [(word,) + row]), ()) in (None, len(rows) + 1) or source.random() < 0.03:
            rows.append((word,) + row)
            if word == "send":
                sent.append(row)
    still_open = sorted({letter[:2] for letter in sent[1:] if source.random() < 0.7})
    return tuple(rows), tuple(still_open)


def judged(kind, rows, still_open):
    """The judge of [26], looking back from each row over all rows ahead of it."""
    def there(at):
        found = {}
        for row in rows[:at]:
            if row[0] == "come":
                found[row[1]] = row[2]
            if row[0] == "go":
                del found[row[1]]
        return found

    for at, (word, *parts) in enumerate(rows):
        ahead, now = rows[:at], there(at)
        sends = {row[1:3]: row[3:] for row in ahead if row[0] == "send"}
        if word == "come":
            fine = parts[0] not in now
        elif word == "go":
            fine = parts[0] in now
        elif word == "send":
            fine = parts[0] in now and all(pair[0] != parts[0] or pair[1] < parts[1] for pair in sends)
        elif word == "lose":
            fine = tuple(parts) in sends
        else:
            hand, sender, number, text = parts
            fine = hand in now and (sender, number) in sends and sends[sender, number][1] == text
            if fine:
                aim = sends[sender, number][0]
                fine = aim == hand or (aim is None and hand != sender and now[hand] == "hand")
            heard = [row[2:4] for row in ahead if row[0] == "hear" and row[1] == hand]
            if kind == "once":
                fine = fine and (sender, number) not in heard
            if kind == "row":
                fine = fine and all(pair[0] != sender or pair[1] < number for pair in heard)
        if not fine:
            return at
    sends = {row[1:3] for row in rows if row[0] == "send"}
    if not set(still_open) <= sends:
        return len(rows)
    for at, row in enumerate(rows):
        if row[0] == "send" and ("lose",) + row[1:3] not in rows and row[1:3] not in still_open:
            now = there(at)
            aims = [row[3]] if row[3] is not None else [hand for hand in now if now[hand] == "hand" and hand != row[1]]
            for hand in aims:
                if hand in now and ("hear", hand) + row[1:3] + row[4:] not in rows:
                    return len(rows)
    return None


if __name__ == "__main__":
    unittest.main()
