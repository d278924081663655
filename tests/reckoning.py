"""Fars reckoned another way than the program does, to be laid beside its own."""

from wrapnets.bounds import FAR


def reckoned(houses, roads, up):
    """The least sums of delays, found by going out from a house beat by beat."""
    told = []
    for start in range(houses):
        came = {start: 0}
        for beat in range(1, FAR):
            new = []
            for (a, b, delay, size), state in zip(roads, up):
                for one, other in ((a, b), (b, a)):
                    if state and one in came and came[one] + delay == beat and other not in came:
                        new.append(other)
            came.update({house: beat for house in new})
        told.append(tuple(came.get(house, FAR) for house in range(houses)))
    return tuple(told)


def turned_by_hand(roads, fars):
    houses = range(len(fars))
    new = [[FAR] * len(fars) for house in houses]
    for house in houses:
        for other in houses:
            for near, delay, size in roads.neighbours(house):
                new[house][other] = min(new[house][other], delay + fars[near][other])
        new[house][house] = 0
    return tuple(map(tuple, new))


def next_by_hand(roads, fars, house, other):
    best, by = FAR, None
    for near, delay, size in roads.neighbours(house):
        if delay + fars[near][other] < best:
            best, by = delay + fars[near][other], near
    return by
