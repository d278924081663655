"""Texts cut into parts, and parts put together again.

A part is a pair (first, signs): the place of its first sign in the text, and its signs."""

from wrapnets.errors import Torn
from wrapnets.things import is_whole_within


def cut(text, size):
    """The text in parts of size signs, from the left, the last one what is left: a tuple."""
    # No sign fits into a part of none, and a step of 0 would be an error of Python's own.
    if size < 1:
        return ()
    return tuple([(first, text[first:first + size]) for first in range(0, len(text), size)])


def is_part(text, size, thing):
    """Whether it is a part of at most size signs of the text, of anything."""
    if not isinstance(thing, tuple) or len(thing) != 2:
        return False
    first, signs = thing
    if not is_whole_within(first, 0, len(text) - 1) or not isinstance(signs, str):
        return False
    return 1 <= len(signs) <= size and text[first:first + len(signs)] == signs


def are_parts(text, size, thing):
    """Whether they are parts of at most size signs, rising by first, that cover the text, of anything."""
    if not isinstance(thing, tuple):
        return False
    ahead = -1
    covered = 0
    for part in thing:
        if not is_part(text, size, part):
            return False
        first, signs = part
        # A part beyond what is covered leaves a gap that no later one can fill, as they rise.
        if first <= ahead or first > covered:
            return False
        ahead = first
        covered = max(covered, first + len(signs))
    return covered >= len(text)


def put_together(whole, parts):
    """The text of so many signs that the parts tell, None where some sign isn't covered."""
    came = {}
    torn = []
    for first, signs in parts:
        for place, sign in enumerate(signs, start=first):
            if place >= whole or came.setdefault(place, sign) != sign:
                torn.append(place)
    if len(torn) > 0:
        raise Torn(min(torn))
    if any([place not in came for place in range(whole)]):
        return None
    return "".join([came[place] for place in range(whole)])


class Heap:
    """The signs of a text of so many that have come, by their places."""

    def __init__(self, whole):
        self.whole = whole
        self.came = {}

    def add(self, first, signs):
        """A part has come."""
        for place, sign in enumerate(signs, start=first):
            self.came[place] = sign

    def places(self):
        """The places whose signs have come, rising: a tuple."""
        return tuple(sorted(self.came))

    def is_whole(self):
        """Whether all signs have come."""
        return all([place in self.came for place in range(self.whole)])

    def text(self):
        """The signs that have come, by their places."""
        return "".join([self.came[place] for place in sorted(self.came)])

    def copy(self):
        """A heap that stands alike and goes on by itself."""
        other = Heap(self.whole)
        other.came = dict(self.came)
        return other
