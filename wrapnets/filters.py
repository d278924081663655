"""Filters: what a number of a room hears of the letters that come to it, by the room's kind."""

KINDS = ("loose", "once", "row")


class Filter:
    """Hears all."""

    def takes(self, sender, number):
        """The word "heard", or why the letter is dropped."""
        return "heard"

    def rows(self):
        """What it keeps of what it heard: a tuple."""
        return ()

    def copy(self):
        """A filter that stands alike and goes on by itself."""
        return Filter()


class Loose(Filter):
    """Hears all that comes, twice too."""

    def takes(self, sender, number):
        """The word "heard"."""
        return "heard"

    def rows(self):
        """Nothing is kept: ()."""
        return ()

    def copy(self):
        """A filter that stands alike and goes on by itself."""
        return Loose()


class Once(Filter):
    """Hears each letter once."""

    def __init__(self):
        self.pairs = {}

    def takes(self, sender, number):
        """The word "heard", or "again" where that very letter was heard."""
        if (sender, number) in self.pairs:
            return "again"
        self.pairs[(sender, number)] = True
        return "heard"

    def rows(self):
        """The pairs (sender, number) that it heard, rising."""
        return tuple(sorted(self.pairs))

    def copy(self):
        """A filter that stands alike and goes on by itself."""
        other = Once()
        other.pairs = {pair: True for pair in self.pairs}
        return other


class Turn(Filter):
    """Hears each sender's letters in their turn."""

    def __init__(self):
        self.greatest = {}

    def takes(self, sender, number):
        """The word "heard", or "late" where that letter of the sender or a later one was heard."""
        if sender in self.greatest and self.greatest[sender] >= number:
            return "late"
        self.greatest[sender] = number
        return "heard"

    def rows(self):
        """Of each sender (sender, greatest number heard), by senders."""
        return tuple([(sender, self.greatest[sender]) for sender in sorted(self.greatest)])

    def copy(self):
        """A filter that stands alike and goes on by itself."""
        other = Turn()
        other.greatest = dict(self.greatest)
        return other


def filter_of(kind):
    """A new filter of a room of such a kind."""
    if kind == "once":
        return Once()
    if kind == "row":
        return Turn()
    return Loose()
