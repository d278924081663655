"""A room's run led to rows of one plain net."""

from wrapnets.bearing import LETTERS, dropped_heads, sent_texts, under_way
from wrapnets.errors import NoRoom
from wrapnets.things import is_whole_within


def check_put(world, room):
    """Refuses what is no number of a room that ever was put."""
    if not is_whole_within(room, 0, world.made()[0] - 1):
        raise NoRoom(room)


def plain_row(row):
    """The row of a plain net that a row of a room's log is led to, in a list; none where it is led to none."""
    word = row[0]
    if word == "came":
        return [("come",) + row[3:]]
    if word == "went":
        return [("go",) + row[3:]]
    if word == "sent":
        return [("send",) + row[3:]]
    if word == "heard":
        return [("hear",) + row[3:]]
    return []


def lost_letters(room, texts, row):
    """The letters (sender, number) of hands of the room that a dropped row tells to be lost: a list."""
    heads = dropped_heads(texts, row)
    return [(sender, number) for inside, kind, sender, number in heads if inside == room and kind in LETTERS]


def open_letters(world, room):
    """The letters (sender, number) of hands of the room that ground letters bear, rising: a tuple."""
    heads = [head for borne in under_way(world) for head in borne]
    return tuple(sorted({(head[2], head[4]) for head in heads if head[0] == room and head[1] in LETTERS}))


def plain_of(world, room):
    """The plain paper of a room that ever was put: (rows, open)."""
    check_put(world, room)
    log = world.log()
    texts = sent_texts(log)
    rows = []
    for row in log:
        if row[0] == "dropped":
            rows += [("lose",) + letter for letter in lost_letters(room, texts, row)]
        elif row[2] == room:
            rows += plain_row(row)
    return tuple(rows), open_letters(world, room)
