"""The bounds of all that is laid and sent."""

HOUSES = 8
ROADS = 14
DELAY = 2
NARROW = 16
WIDE = 80
FAR = 24
HOPS = 8
COUNT = 4
AGE = 10
NOTES = 5
JOIN = 6
WEAVE = 20
ROOMS = 6
NUMBERS = 16
HANDS = 6
GATES = 3
TEXT = 12
DEEDS = 300
BEATS = 3000
BATCH = 30
NONE = ()

# With no deeds but steps of empty weaves a world is quiet within so many beats.
REST = 2 * (HOPS * DELAY + JOIN + 1) * (COUNT + 1) * (COUNT + 1)
