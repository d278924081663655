"""What letters bear: a ground letter bears a letter of a room, and that one perhaps a letter of a room over it.

A letter of a room is told as its head, as wrapnets.heads has it; a letter of hands is one of the kinds in LETTERS, the
others are what a keeper gets and tells."""

from wrapnets.heads import read
from wrapnets.nets import BEARS

LETTERS = ("l", "u", "a", "f")


def borne_by_text(text):
    """The head of the letter that a letter of hands with that text bears, in a list; none where it bears none."""
    return [read(text[len(BEARS):])[0]] if text.startswith(BEARS) else []


def borne_by_ground(paper):
    """The heads of all that a ground letter with that text bears: a list."""
    head, text = read(paper)
    return [head] + borne_by_text(text)


def sent_texts(log):
    """Of each letter of hands, as (room, sender, number), its text."""
    return {(row[2], row[3], row[4]): row[6] for row in log if row[0] == "sent"}


def dropped_heads(texts, row):
    """Of what a dropped row tells: of itself and of what it bore (room, kind, sender, number), a list."""
    word, beat, why, room, kind, sender, number = row
    told = [(room, kind, sender, number)]
    if kind in LETTERS:
        text = texts[(room, sender, number)]
        told += [(head[0], head[1], head[2], head[4]) for head in borne_by_text(text)]
    return told


def under_way(world):
    """Of each ground letter that there is the heads of all that it bears: a list of lists."""
    return [borne_by_ground(paper) for letter, start, end, paper in world.letters()]
