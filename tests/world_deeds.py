"""Deeds drawn for whole runs of worlds."""

from tests.samples import FULLEST, KITE, LONG_LINE, NARROW_AND_WIDE, SQUARE, random_ground
from wrapnets.bounds import NUMBERS, WEAVE
from wrapnets.filters import KINDS

WORDS = ("lose", "double", "hold")
TEXTS = ("", "a", "hello", "  ", "2.l.1:", "!0.h", "._-=,;", "twelve signs")


def grounds(source, many):
    return [SQUARE, KITE, LONG_LINE, FULLEST, NARROW_AND_WIDE] + [random_ground(source) for k in range(many)]


def drawn_weave(source, world, share):
    chosen = [row[0] for row in world.frames() if source.random() < share]
    return tuple((number, source.choice(WORDS)) for number in chosen[:WEAVE])


def places_of(world, over):
    return tuple(range(world.ground()[0])) if over is None else tuple(row[0] for row in world.hands(over))


def drawn_room(source, world):
    """A room that stands, or a number that is none where there's none."""
    rooms = world.rooms()
    return source.choice(rooms) if rooms else (0, "loose", None, 0)


def drawn_hand(source, world, room):
    hands = [row[0] for row in world.hands(room)] if world.rooms() else []
    return source.choice(hands) if hands and source.random() < 0.97 else source.randrange(NUMBERS)


def drawn_place(source, world, over):
    places = places_of(world, over)
    return source.choice(places) if places and source.random() < 0.97 else source.randint(-1, NUMBERS)


def drawn_number(source, world, room):
    """A number of the room or another one: few of them, so that many meet."""
    numbers = [row[0] for row in world.numbers(room)] if world.rooms() else []
    return source.choice(numbers) if numbers and source.random() < 0.8 else source.randrange(NUMBERS)


def drawn_pairs(source, world, there):
    """Pairs of hands of the other room, of aliases there too, and of aliases."""
    numbers = [row[0] for row in world.numbers(there)] if world.rooms() else []
    hands = source.sample(numbers, min(len(numbers), source.randint(0, 5)))
    aliases = source.sample(range(8, NUMBERS), len(hands))
    return tuple(zip(hands, aliases))


def drawn_gate(source, world):
    one = drawn_room(source, world)
    alike = [row for row in world.rooms() if row[2] == one[2] and row != one]
    other = source.choice(alike) if alike else drawn_room(source, world)
    ours, theirs = drawn_pairs(source, world, other[0]), drawn_pairs(source, world, one[0])
    near, far = [pair[0] for pair in theirs], [pair[0] for pair in ours]
    rows = [("out", a, b) for a in near for b in far] + [("in", b, a) for a in near for b in far]
    may = tuple(source.sample(rows, min(len(rows), source.randint(0, 12))))
    return drawn_place(source, world, one[2]), one[0], other[0], ours, theirs, may


def drawn_road(source, world):
    houses, roads, up, fars = world.ground()
    if not roads:
        return "rise", (0, 1)
    # Roads that are down rise soon, so that letters run mostly.
    down = [row for row, state in zip(roads, up) if not state]
    row = source.choice(down) if down and source.random() < 0.7 else source.choice(roads)
    is_up = up[roads.index(row)]
    return "fall" if is_up else "rise", row[:2] if source.random() < 0.5 else row[1::-1]


def drawn_put_room(source, world):
    nets = [None, None] + [row[0] for row in world.rooms() if row[2] is None and world.hands(row[0])]
    over = source.choice(nets)
    return "put_room", (source.choice(KINDS), drawn_place(source, world, over), over)


def drawn_send(source, world):
    """A letter to a number of a room or to all; sometimes one that a gate lets pass."""
    gates = [gate for gate in world.gates() if gate[6]]
    if gates and source.random() < 0.4:
        number, place, one, other, ours, theirs, may = source.choice(gates)
        word, sender, hearer = source.choice(may)
        pairs = ours if word == "out" else theirs
        return one if word == "out" else other, sender, dict(pairs)[hearer], source.choice(TEXTS)
    room = drawn_room(source, world)[0]
    hearer = None if source.random() < 0.3 else drawn_number(source, world, room)
    return room, drawn_hand(source, world, room), hearer, source.choice(TEXTS)


def drawn_deed(source, world, share):
    """A deed's word and what it is handed by place, mostly right; share is that of the frames with words."""
    word = source.random()
    if word < 0.4:
        return "step", (drawn_weave(source, world, share),)
    room, kind, over, keeper = drawn_room(source, world)
    if word < 0.62:
        return "send", drawn_send(source, world)
    if word < 0.78:
        return "move", (room, drawn_hand(source, world, room), drawn_place(source, world, over))
    if word < 0.87:
        return "enter", (room, source.randrange(8), drawn_place(source, world, over))
    if word < 0.9:
        return "leave", (room, drawn_hand(source, world, room))
    if word < 0.94:
        return drawn_road(source, world)
    if word < 0.97:
        return drawn_put_room(source, world)
    if word < 0.99:
        return "put_gate", drawn_gate(source, world)
    if word < 0.995:
        gates = world.gates()
        return "close_gate", (source.choice(gates)[0] if gates else 0,)
    return "close_room", (room,)


def done(world, word, things):
    """Does the deed by a call: what it tells."""
    if word == "put_room" and len(things) == 3:
        return world.put_room(*things[:2], over=things[2])
    if word == "step":
        return world.step(**({"weave": things[0]} if things else {}))
    return getattr(world, word)(*things)


def furnished(source, world):
    """Rooms and hands for a run: three rooms over the ground, and two over one of these where it has hands."""
    houses = world.ground()[0]
    deeds = [("put_room", (kind, source.randrange(houses), None)) for kind in source.sample(KINDS, 3)]
    for room in range(3):
        for hand in source.sample(range(6), 4):
            deeds.append(("enter", (room, hand, source.randrange(houses))))
    beneath = source.randrange(3)
    hands = [things[1] for word, things in deeds if word == "enter" and things[0] == beneath]
    for room in (3, 4):
        deeds.append(("put_room", (source.choice(KINDS), source.choice(hands), beneath)))
        for hand in source.sample(range(6), 3):
            deeds.append(("enter", (room, hand, source.choice(hands))))
    return deeds
