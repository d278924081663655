"""Whether a room's tables tell the truth, what may keep them from it, and whether a world is quiet."""

from wrapnets.bearing import LETTERS, dropped_heads, sent_texts, under_way


def is_true(world, room):
    """Whether each row of the room's tables whose hand or alias is in the room tells its place."""
    edges = world.edges(room)
    places = {row[0]: row[3] for row in world.numbers(room) if row[3] is not None}
    rows = [row for edge in edges for row in world.table(room, edge)]
    return all([places.get(hand, place) == place for hand, place, number, beat in rows])


def is_news(room, told_room, kind):
    """Whether what is told of such a room and kind is a here or a tell of the room."""
    return told_room == room and kind not in LETTERS


def dropped_news(world, room):
    """How many rows of the log tell that a here or a tell of the room, or what bore one, was dropped."""
    log = world.log()
    texts = sent_texts(log)
    heads = [dropped_heads(texts, row) for row in log if row[0] == "dropped"]
    return len([told for told in heads if any([is_news(room, head[0], head[1]) for head in told])])


def loose_ends(world, room):
    """How many rows tell that news of the room were dropped, and how many ground letters bear some: a pair."""
    # The world itself refuses what is no room that stands.
    world.edges(room)
    bearing = [heads for heads in under_way(world) if any([is_news(room, head[0], head[1]) for head in heads])]
    return dropped_news(world, room), len(bearing)


def is_quiet(world):
    """Whether there is no frame and no heap."""
    return world.frames() == () and world.heaps() == ()
