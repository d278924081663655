"""A ground written once more, as plainly as the document says it, to be laid beside wrapnets.ground."""

from tests.reckoning import next_by_hand, reckoned, turned_by_hand
from wrapnets.roads import Roads


class PlainGround:
    def __init__(self, houses, roads):
        self.roads = Roads(houses, roads)
        self.fars = reckoned(houses, roads, (True,) * len(roads))
        self.beat = 0
        self.letters = []
        self.frames = []
        self.heaps = []
        self.drops = []
        self.many = 0

    def number(self):
        self.many += 1
        return self.many - 1

    def send(self, start, end, text):
        self.letters.append((len(self.letters), start, end, text))
        frame = {"number": self.number(), "letter": len(self.letters) - 1, "first": 0, "signs": text, "hops": 8}
        self.at_house(frame, start)
        return len(self.letters) - 1

    def at_house(self, frame, house):
        letter = self.letters[frame["letter"]]
        if frame["hops"] == 0:
            self.drops.append((self.beat, "hops", letter[0]))
            return
        by = next_by_hand(self.roads, self.fars, house, letter[2])
        if by is None:
            self.drops.append((self.beat, "noway", letter[0]))
            return
        [(delay, size)] = [row[1:] for row in self.roads.neighbours(house) if row[0] == by]
        signs, first, number = frame["signs"], frame["first"], frame["number"]
        while signs:
            self.frames.append({
                "number": number, "letter": letter[0], "first": first, "signs": signs[:size],
                "hops": frame["hops"] - 1, "from": house, "to": by, "left": delay,
            })
            signs, first = signs[size:], first + size
            if signs:
                number = self.number()

    def step(self, weave):
        self.beat += 1
        came = []
        for frame in sorted(self.frames, key=lambda frame: frame["number"]):
            word = dict(weave).get(frame["number"])
            if word == "lose":
                self.frames.remove(frame)
                self.drops.append((self.beat, "lost", frame["letter"]))
            elif word != "hold":
                if word == "double":
                    self.frames.append({**frame, "number": self.number()})
                frame["left"] -= 1
                if frame["left"] == 0:
                    self.frames.remove(frame)
                    if frame["to"] == self.letters[frame["letter"]][2]:
                        self.join(frame, came)
                    else:
                        self.at_house(frame, frame["to"])
        self.fars = turned_by_hand(self.roads, self.fars)
        for heap in sorted(self.heaps, key=lambda heap: heap[0]):
            if self.beat - heap[1] >= 6:
                self.heaps.remove(heap)
                self.drops.append((self.beat, "broken", heap[0]))
        return tuple(came)

    def join(self, frame, came):
        letter = self.letters[frame["letter"]]
        found = [heap for heap in self.heaps if heap[0] == letter[0]]
        if not found:
            found = [[letter[0], self.beat, [None] * len(letter[3])]]
            self.heaps += found
        for at, sign in enumerate(frame["signs"]):
            found[0][2][frame["first"] + at] = sign
        if None not in found[0][2]:
            self.heaps.remove(found[0])
            came.append(letter[:3] + ("".join(found[0][2]),))

    def fall(self, a, b):
        self.roads.fall(a, b)
        for frame in sorted(self.frames, key=lambda frame: frame["number"]):
            if {frame["from"], frame["to"]} == {a, b}:
                self.frames.remove(frame)
                self.drops.append((self.beat, "fallen", frame["letter"]))

    def rise(self, a, b):
        self.roads.rise(a, b)

    def seen(self):
        """All that a Ground tells, in one dict by its methods' names."""
        frames = sorted(self.frames, key=lambda frame: frame["number"])
        there = {frame["letter"] for frame in frames} | {heap[0] for heap in self.heaps}
        rows = sorted(self.heaps, key=lambda heap: heap[0])
        return {
            "beat": self.beat,
            "frames": tuple(tuple(frame.values()) for frame in frames),
            "letters": tuple(row for row in self.letters if row[0] in there),
            "heaps": tuple((row[0], row[1], tuple(at for at, s in enumerate(row[2]) if s is not None)) for row in rows),
            "drops": tuple(self.drops),
            "told": (self.roads.many, self.roads.listed, self.roads.up(), self.fars),
            "houses": self.roads.many,
            "made": (len(self.letters), self.many),
        }
