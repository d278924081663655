"""The ground's houses and roads, and which roads are up."""

from wrapnets.bounds import DELAY, HOUSES, NARROW, ROADS, WIDE
from wrapnets.errors import BadGround, NoRoad, Same
from wrapnets.things import is_whole, is_whole_within


def is_outline(houses, roads):
    """Whether houses is right, and roads is a tuple that isn't too long, whatever its rows are."""
    return is_whole_within(houses, 1, HOUSES) and isinstance(roads, tuple) and len(roads) <= ROADS


def is_road(houses, row):
    """Whether the row, anything, is a road between two of so many houses."""
    if not isinstance(row, tuple) or len(row) != 4:
        return False
    a, b, delay, size = row
    if not is_whole_within(a, 0, houses - 1) or not is_whole_within(b, a + 1, houses - 1):
        return False
    return is_whole_within(delay, 1, DELAY) and is_whole_within(size, NARROW, WIDE)


def first_wrong_road(houses, roads):
    """The number of the first row that is no road where it stands, None where there's none."""
    for at, row in enumerate(roads):
        if not is_road(houses, row):
            return at
        # Rising pairs alone: rising rows might have one pair twice, with another delay or size.
        if at > 0 and row[:2] <= roads[at - 1][:2]:
            return at
    return None


def is_ground(houses, roads):
    """Whether they are a ground, of anything."""
    return is_outline(houses, roads) and first_wrong_road(houses, roads) is None


def neighbours_by(roads, up, house):
    """The neighbours of a house over roads that are up, rising: a tuple of (house, delay, size)."""
    found = []
    for (a, b, delay, size), is_up in zip(roads, up):
        if is_up and a == house:
            found.append((b, delay, size))
        elif is_up and b == house:
            found.append((a, delay, size))
    return tuple(sorted(found))


class Roads:
    """The roads of a ground, each up at first."""

    def __init__(self, houses, roads):
        if not is_outline(houses, roads):
            raise BadGround(None)
        wrong = first_wrong_road(houses, roads)
        if wrong is not None:
            raise BadGround(wrong)
        self.many = houses
        self.listed = roads
        self.states = [True] * len(roads)

    def up(self):
        """Of each road, in their order, whether it is up."""
        return tuple(self.states)

    def fall(self, a, b):
        """The road between a and b is up no more."""
        self.change(a, b, False)

    def rise(self, a, b):
        """The road between a and b is up again."""
        self.change(a, b, True)

    def neighbours(self, house):
        """The neighbours of a house over roads that are up, rising: a tuple of (house, delay, size)."""
        return neighbours_by(self.listed, self.states, house)

    def copy(self):
        """Roads that stand alike and fall and rise by themselves."""
        other = Roads(self.many, self.listed)
        other.states = list(self.states)
        return other

    def change(self, a, b, state):
        """The road between a and b, anything, is up or down from now on."""
        at = self.place_of(a, b)
        if at is None:
            raise NoRoad(a, b)
        if self.states[at] == state:
            raise Same("the road is so already")
        self.states[at] = state

    def place_of(self, a, b):
        """The number of the road between a and b, either way round; None where there's none."""
        if not is_whole(a) or not is_whole(b):
            return None
        for at, row in enumerate(self.listed):
            if row[:2] == (a, b) or row[:2] == (b, a):
                return at
        return None
