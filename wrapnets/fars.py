"""How far each house is from each, as the houses learn it from their neighbours turn by turn.

Fars are a tuple of a tuple for each house, with the far to each house. Nears are, for each house, its neighbours
over roads that are up, as Roads tells them."""

from wrapnets.bounds import FAR
from wrapnets.roads import is_ground, neighbours_by
from wrapnets.things import is_whole_within


def nears_by(houses, roads, up):
    """The nears of a ground of which such roads are up."""
    return [neighbours_by(roads, up, house) for house in range(houses)]


def steps_to(fars, near, other):
    """By each neighbour of a house, how far the other one is: a list of (delay + far, neighbour)."""
    return [(delay + fars[house][other], house) for house, delay, size in near]


def turned_far(fars, near, house, other):
    """What a house with such neighbours has as its far for the other one behind a turn."""
    if house == other:
        return 0
    return min([FAR] + [reach for reach, by in steps_to(fars, near, other)])


def turned(fars, nears):
    """The fars behind a turn of all houses at once."""
    houses = list(range(len(nears)))
    return tuple([tuple([turned_far(fars, nears[house], house, other) for other in houses]) for house in houses])


def settled(nears):
    """The fars that a turn leaves as they are."""
    houses = list(range(len(nears)))
    # Begun from the greatest fars, each turn only ever lessens one, so this comes to its end.
    fars = tuple([tuple([0 if house == other else FAR for other in houses]) for house in houses])
    ahead = None
    while fars != ahead:
        ahead = fars
        fars = turned(ahead, nears)
    return fars


def far_paper(houses, roads, up):
    """The settled fars of a ground of which such roads are up."""
    return settled(nears_by(houses, roads, up))


def are_states(roads, up):
    """Whether it tells of each road whether it is up."""
    return isinstance(up, tuple) and len(up) == len(roads) and all([isinstance(state, bool) for state in up])


def is_far_row(houses, row):
    """Whether it is one house's row of fars, of anything."""
    if not isinstance(row, tuple) or len(row) != houses:
        return False
    return all([is_whole_within(far, 0, FAR) for far in row])


def are_fars(houses, fars):
    """Whether they have the form of fars, of anything."""
    if not isinstance(fars, tuple) or len(fars) != houses:
        return False
    return all([is_far_row(houses, row) for row in fars])


def is_settled(houses, roads, up, fars):
    """Whether they are fars of such a ground that a turn leaves as they are, of anything."""
    if not is_ground(houses, roads) or not are_states(roads, up) or not are_fars(houses, fars):
        return False
    return turned(fars, nears_by(houses, roads, up)) == fars


class Fars:
    """The fars of all houses over roads whose falls and rises are seen at once."""

    def __init__(self, roads):
        self.roads = roads
        self.fars = settled(self.nears())

    def far(self, house, other):
        """How far the other house is, as the house has it; FAR of what is no house."""
        if not self.has(house) or not self.has(other):
            return FAR
        return self.fars[house][other]

    def next(self, house, other):
        """The neighbour by which the house sends to the other one, or None."""
        if house == other or not self.has(other):
            return None
        steps = steps_to(self.fars, self.roads.neighbours(house), other)
        reach, by = min(steps, default=(FAR, None))
        return by if reach < FAR else None

    def turn(self):
        """All houses at once learn from their neighbours."""
        self.fars = turned(self.fars, self.nears())

    def rows(self):
        """Of each house a tuple of its fars: a tuple."""
        return self.fars

    def copy_over(self, roads):
        """Such fars as these are now, over other roads of the same ground."""
        other = Fars(roads)
        other.fars = self.fars
        return other

    def nears(self):
        """Of each house its neighbours now."""
        return [self.roads.neighbours(house) for house in range(self.roads.many)]

    def has(self, house):
        """Whether there is such a house."""
        return is_whole_within(house, 0, self.roads.many - 1)
