"""What a place knows of hands: its table tells where they are, its notes where those went that were there."""

from wrapnets.bounds import AGE, NOTES


def rows_by_hands(kept):
    """The rows of a dict by hands, each with its hand ahead: a tuple."""
    return tuple([(hand,) + kept[hand] for hand in sorted(kept)])


class Table:
    """Of a hand's number a row (place, number, beat)."""

    def __init__(self):
        self.kept = {}

    def learn(self, hand, place, number, beat):
        """The hand is at the place, where no row of a greater number tells of it."""
        row = self.kept.get(hand)
        if row is None or row[1] <= number:
            self.kept[hand] = (place, number, beat)

    def look(self, hand, beat):
        """The place of the hand, None where no row that isn't too old tells of it."""
        row = self.kept.get(hand)
        if row is None or row[2] < beat - AGE:
            return None
        return row[0]

    def drop(self, hand):
        """The row of the hand is there no more."""
        self.kept.pop(hand, None)

    def rows(self):
        """A tuple of (hand, place, number, beat), by hands."""
        return rows_by_hands(self.kept)

    def copy(self):
        """A table that stands alike and goes on by itself."""
        other = Table()
        other.kept = dict(self.kept)
        return other


class Notes:
    """Of a hand that was here (place, beat): where it went, None where it left the room, and when."""

    def __init__(self):
        self.kept = {}

    def put(self, hand, place, beat):
        """The hand went to the place, or left the room where that is None."""
        self.kept[hand] = (place, beat)

    def get(self, hand):
        """The note of the hand as (place, beat), or None."""
        return self.kept.get(hand)

    def drop(self, hand):
        """The note of the hand is there no more."""
        self.kept.pop(hand, None)

    def is_fresh(self, hand, beat):
        """Whether there is a note of the hand that has a place and isn't too old."""
        note = self.kept.get(hand)
        return note is not None and note[0] is not None and note[1] >= beat - NOTES

    def rows(self):
        """A tuple of (hand, place, beat), by hands."""
        return rows_by_hands(self.kept)

    def copy(self):
        """Notes that stand alike and go on by themselves."""
        other = Notes()
        other.kept = dict(self.kept)
        return other
