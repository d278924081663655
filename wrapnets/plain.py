"""Plain nets: hands and no places, and the judge of what is told of a run over one.

A plain paper is a pair (rows, still open): rows ("come", hand, sort), ("go", hand), ("send", sender, number, hearer,
text), ("hear", hand, sender, number, text) and ("lose", sender, number), and the letters (sender, number) of which
something is still under way."""

from wrapnets.filters import KINDS
from wrapnets.things import is_whole

SORTS = ("hand", "alias")


def is_number(thing):
    """Whether it is a whole number from 0 on, of anything."""
    return is_whole(thing) and thing >= 0


def is_row(thing):
    """Whether it has the form of a row, of anything."""
    if not isinstance(thing, tuple) or len(thing) == 0:
        return False
    word = thing[0]
    rest = thing[1:]
    if word == "come":
        return len(rest) == 2 and is_number(rest[0]) and rest[1] in SORTS
    if word == "go":
        return len(rest) == 1 and is_number(rest[0])
    if word == "send":
        return len(rest) == 4 and is_letter(rest[:2]) and is_aim(rest[2]) and isinstance(rest[3], str)
    if word == "hear":
        return len(rest) == 4 and is_number(rest[0]) and is_letter(rest[1:3]) and isinstance(rest[3], str)
    return word == "lose" and is_letter(rest)


def is_letter(thing):
    """Whether it is a pair (sender, number), of anything."""
    return isinstance(thing, tuple) and len(thing) == 2 and is_number(thing[0]) and is_number(thing[1])


def is_aim(thing):
    """Whether it is a hearer, or None for all, of anything."""
    return thing is None or is_number(thing)


def is_rising(letters):
    """Whether each pair is above the one ahead."""
    return all([letters[at - 1] < letters[at] for at in range(1, len(letters))])


class PlainNet:
    """A plain net as its rows are read, one behind another."""

    def __init__(self, kind):
        self.kind = kind
        # Who is there, with whether it is an alias.
        self.there = {}
        # Of each letter (hearer, text), and those that are due to hear it.
        self.sent = {}
        self.due = {}
        self.last_sent = {}
        # Of each hand and sender the greatest number heard, and each letter heard by each hand.
        self.last_heard = {}
        self.heard = {}
        self.lost = {}

    def take(self, row):
        """Reads a row that has the form of one: whether it is right where it stands."""
        word = row[0]
        if word == "come":
            return self.take_come(row[1], row[2] == "alias")
        if word == "go":
            return self.take_go(row[1])
        if word == "send":
            return self.take_send(row[1:3], row[3], row[4])
        if word == "hear":
            return self.take_hear(row[1], row[2:4], row[4])
        return self.take_lose(row[1:3])

    def take_come(self, hand, is_alias):
        """One comes that isn't there."""
        if hand in self.there:
            return False
        self.there[hand] = is_alias
        return True

    def take_go(self, hand):
        """One goes that is there."""
        if hand not in self.there:
            return False
        del self.there[hand]
        return True

    def take_send(self, letter, hearer, text):
        """One that is there sends a letter, with a number above all it has sent."""
        sender, number = letter
        if sender not in self.there or self.last_sent.get(sender, -1) >= number:
            return False
        self.last_sent[sender] = number
        self.sent[letter] = (hearer, text)
        self.due[letter] = self.due_for(sender, hearer)
        return True

    def due_for(self, sender, hearer):
        """Those that are there now and due to hear a letter: a list."""
        if hearer is None:
            return [hand for hand in self.there if hand != sender and not self.there[hand]]
        return [hearer] if hearer in self.there else []

    def take_hear(self, hand, letter, text):
        """One that is there hears a letter that was sent to it, or to all."""
        if hand not in self.there or letter not in self.sent:
            return False
        hearer, sent_text = self.sent[letter]
        if text != sent_text or not self.is_for(hand, letter[0], hearer) or not self.is_in_turn(hand, letter):
            return False
        sender, number = letter
        self.heard[(hand, letter)] = True
        self.last_heard[(hand, sender)] = max(number, self.last_heard.get((hand, sender), -1))
        return True

    def is_for(self, hand, sender, hearer):
        """Whether one that is there may hear a letter of the sender to the hearer."""
        if hearer is None:
            return hand != sender and not self.there[hand]
        return hand == hearer

    def is_in_turn(self, hand, letter):
        """Whether the kind lets one hear the letter now."""
        sender, number = letter
        if self.kind == "once":
            return (hand, letter) not in self.heard
        if self.kind == "row":
            return self.last_heard.get((hand, sender), -1) < number
        return True

    def take_lose(self, letter):
        """Something of a letter that was sent is lost."""
        if letter not in self.sent:
            return False
        self.lost[letter] = True
        return True

    def is_at_end(self, still_open):
        """Whether this is right as the end, with such letters, anything, still open."""
        if not isinstance(still_open, tuple) or not all([is_letter(letter) for letter in still_open]):
            return False
        if not is_rising(still_open) or not all([letter in self.sent for letter in still_open]):
            return False
        waiting = {letter: True for letter in still_open}
        for letter in self.sent:
            if letter not in self.lost and letter not in waiting and not self.was_heard(letter):
                return False
        return True

    def was_heard(self, letter):
        """Whether each that was due to hear the letter heard it."""
        return all([(hand, letter) in self.heard for hand in self.due[letter]])


def is_paper(thing):
    """Whether it is a pair whose first part is a tuple, of anything."""
    return isinstance(thing, tuple) and len(thing) == 2 and isinstance(thing[0], tuple)


def first_wrong(kind, paper):
    """The number of the first row that isn't right, how many rows where open or the end isn't, or None."""
    # Of what is no kind, or no paper at all, nothing is right from the beginning.
    if kind not in KINDS or not is_paper(paper):
        return 0
    rows, still_open = paper
    net = PlainNet(kind)
    for at, row in enumerate(rows):
        if not is_row(row) or not net.take(row):
            return at
    return None if net.is_at_end(still_open) else len(rows)


def is_plain(kind, thing):
    """Whether it is a plain paper that is right for the kind, of anything."""
    return first_wrong(kind, thing) is None
