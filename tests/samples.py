"""What several tests are fed with."""

from itertools import combinations


def nested(depth):
    thing = 1
    for level in range(depth):
        thing = (thing,) if level % 2 else [thing]
    return thing


# Some of all that "anything" may be; none of these is right where a number, a ground, a road or fars are due.
ANYTHING = [
    None, True, False, -1, 10 ** 29, -(10 ** 29), "", "0", "1", "a text", (), [], {}, (0,), [0], (None,), (True, False),
    {"a": 1}, {0: [1]}, {(0, 1): 2}, ((0, 1), 2), [[]], ([],), ({},), ("0", "1"), tuple(range(2000)), nested(12),
]

LINE = (3, ((0, 1, 1, 16), (1, 2, 1, 16)))
SQUARE = (4, ((0, 1, 1, 16), (0, 2, 1, 80), (1, 3, 1, 20), (2, 3, 1, 30)))
# 0 to 3 is as long by 1 as by 2, though the first road to 1 is the longer one.
KITE = (4, ((0, 1, 2, 16), (0, 2, 1, 16), (1, 3, 1, 16), (2, 3, 2, 16)))
TWO_PARTS = (5, ((0, 1, 2, 16), (2, 3, 1, 80), (3, 4, 2, 40)))
# The longest way there can be: all houses in a line, with the longest delays.
LONG_LINE = (8, tuple((k, k + 1, 2, 16) for k in range(7)))
FULLEST = (8, tuple((a, b, 1 + (a + b) % 2, 16 + a * 8 + b) for a, b in list(combinations(range(8), 2))[:14]))
# Each way from one end to the other goes over roads of unlike sizes.
NARROW_AND_WIDE = (6, (
    (0, 1, 1, 80), (0, 2, 2, 30), (1, 2, 1, 20), (1, 3, 1, 16), (2, 4, 1, 50), (3, 4, 1, 33), (3, 5, 2, 80), (4, 5, 1, 17),
))
GROUNDS = [(1, ()), (8, ()), (2, ((0, 1, 1, 16),)), LINE, SQUARE, KITE, TWO_PARTS, LONG_LINE, FULLEST, NARROW_AND_WIDE]


def small_grounds():
    """Each ground of three houses with sizes 16, and of four houses one for each choice of pairs."""
    for many in range(4):
        for pairs in combinations(list(combinations(range(3), 2)), many):
            for word in range(2 ** many):
                yield 3, tuple((a, b, 1 + (word >> k) % 2, 16) for k, (a, b) in enumerate(pairs))
    for many in range(7):
        for pairs in combinations(list(combinations(range(4), 2)), many):
            yield 4, tuple((a, b, 1 + (a * 2 + b) % 3 % 2, 16) for a, b in pairs)


def random_ground(source):
    houses = source.randint(1, 8)
    pairs = list(combinations(range(houses), 2))
    chosen = sorted(source.sample(pairs, source.randint(0, min(14, len(pairs)))))
    return houses, tuple((a, b, source.randint(1, 2), source.randint(16, 80)) for a, b in chosen)


def altered(thing, at, new):
    """A tuple with another thing at a place."""
    return thing[:at] + (new,) + thing[at + 1:]
