"""Heads of wrapped letters: tuples (room, kind, sender, hearer, number, count, beat), and texts with one ahead."""

from wrapnets.errors import NoHead
from wrapnets.things import is_whole_within

# Aimed, aimed though the hearer's place isn't known, to all, led on, here, tell.
HEAD_KINDS = ("l", "u", "a", "f", "h", "t")
PARTS = 7
KIND_AT = 1
MOST = 10 ** 6
FIGURES = "0123456789"


def is_head(thing):
    """Whether it is a head, of anything."""
    if not isinstance(thing, tuple) or len(thing) != PARTS:
        return False
    numbers = thing[:KIND_AT] + thing[KIND_AT + 1:]
    return thing[KIND_AT] in HEAD_KINDS and all([is_whole_within(number, 0, MOST) for number in numbers])


def written(head, text):
    """The head as a text, with the text behind it."""
    return ".".join([str(part) for part in head]) + ":" + text


def read_number(word):
    """The number that is written so, None where the word is none as written writes them."""
    # Looked at sign by sign: int also takes blanks, signs and figures of other scripts.
    if word == "" or len(word) > len(str(MOST)) or any([sign not in FIGURES for sign in word]):
        return None
    if word[0] == "0" and word != "0":
        return None
    return int(word)


def read_part(at, word):
    """What the word tells as part number at of a head, None where it tells no number there."""
    return word if at == KIND_AT else read_number(word)


def read(text):
    """The head and the text behind it, of a written one: a pair."""
    if not isinstance(text, str):
        raise NoHead("this is no text")
    front, colon, behind = text.partition(":")
    head = tuple([read_part(at, word) for at, word in enumerate(front.split("."))])
    if colon == "" or not is_head(head):
        raise NoHead("this text has no head")
    return head, behind
