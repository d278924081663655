"""The ground: letters go over its roads as frames, beat by beat, and are joined at their last houses.

A letter is a tuple (number, start, end, text). A frame is a tuple (number, letter, first, signs, hops, start, end,
left), start and end the houses of the road that it is on; a frame at a house is one whose end is that house."""

from wrapnets.bounds import HOPS, JOIN, WEAVE
from wrapnets.cutting import Heap, cut
from wrapnets.errors import BadWeave
from wrapnets.fars import Fars
from wrapnets.roads import Roads
from wrapnets.things import is_whole

WORDS = ("lose", "double", "hold")


def is_woven(running, pair):
    """Whether the pair, anything, tells a word of a frame that is among those running."""
    if not isinstance(pair, tuple) or len(pair) != 2:
        return False
    number, word = pair
    return is_whole(number) and number in running and word in WORDS


def first_wrong_pair(running, weave):
    """The number of the first pair that is none where it stands, None where there's none."""
    ahead = -1
    for at, pair in enumerate(weave):
        if not is_woven(running, pair) or pair[0] <= ahead:
            return at
        ahead = pair[0]
    return None


def check_weave(running, weave):
    """Refuses what is no weave of the frames that are running."""
    if not isinstance(weave, tuple) or len(weave) > WEAVE:
        raise BadWeave(None)
    wrong = first_wrong_pair(running, weave)
    if wrong is not None:
        raise BadWeave(wrong)


class Ground:
    """Houses and roads, and all that runs over them."""

    def __init__(self, houses, roads):
        self.roads = Roads(houses, roads)
        self.fars = Fars(self.roads)
        self.now = 0
        # All letters so far: of one that was whole a doubled frame may still come.
        self.sent = []
        self.framed = 0
        self.running = {}
        # Of a letter that came in part: the beat of its first part, and its heap.
        self.piled = {}
        self.lost = []

    def send(self, start, end, text):
        """A letter sets out from a house to another one: its number."""
        letter = len(self.sent)
        self.sent.append((letter, start, end, text))
        self.set_out((self.new_number(), letter, 0, text, HOPS, start, start, 0))
        return letter

    def step(self, weave):
        """A beat by the weave: a tuple of the letters that came whole, in the order in which they did."""
        check_weave(self.running, weave)
        words = dict(weave)
        self.now += 1
        came = []
        # Frames that are made in this beat stand still in it.
        numbers = sorted(self.running)
        for number in numbers:
            letter = self.live(number, words.get(number))
            if letter is not None:
                came.append(letter)
        self.fars.turn()
        self.break_heaps()
        return tuple(came)

    def fall(self, a, b):
        """The road between a and b falls, and what is on it."""
        self.roads.fall(a, b)
        numbers = sorted(self.running)
        for number in numbers:
            start, end = self.running[number][5:7]
            if (start, end) == (a, b) or (start, end) == (b, a):
                self.lose_frame(number, "fallen")

    def rise(self, a, b):
        """The road between a and b is up again."""
        self.roads.rise(a, b)

    def frames(self):
        """A tuple of the frames that are on roads, by numbers."""
        return tuple([self.running[number] for number in sorted(self.running)])

    def letters(self):
        """A tuple of the letters of which a frame or a heap is there, by numbers."""
        numbers = [frame[1] for frame in self.frames()] + list(self.piled)
        return tuple([self.sent[number] for number in sorted(set(numbers))])

    def heaps(self):
        """A tuple of (letter, beat of its first part, places that have come), by letters."""
        told = []
        for letter in sorted(self.piled):
            beat, heap = self.piled[letter]
            told.append((letter, beat, heap.places()))
        return tuple(told)

    def beat(self):
        """How many beats went by."""
        return self.now

    def drops(self):
        """A tuple of (beat, why, letter) of all that was dropped so far."""
        return tuple(self.lost)

    def drops_from(self, at):
        """A tuple of (beat, why, text of the letter) of what was dropped, from drop number at on."""
        return tuple([(beat, why, self.sent[letter][3]) for beat, why, letter in self.lost[at:]])

    def told(self):
        """The ground itself: (houses, roads, up, fars)."""
        return self.roads.many, self.roads.listed, self.roads.up(), self.fars.rows()

    def houses(self):
        """How many houses there are."""
        return self.roads.many

    def made(self):
        """How many letters and how many frames were made so far: a pair."""
        return len(self.sent), self.framed

    def copy(self):
        """A ground that stands alike in all and goes on by itself."""
        other = Ground(self.roads.many, self.roads.listed)
        other.roads = self.roads.copy()
        other.fars = self.fars.copy_over(other.roads)
        other.now = self.now
        other.sent = list(self.sent)
        other.framed = self.framed
        other.running = dict(self.running)
        other.piled = {letter: (beat, heap.copy()) for letter, (beat, heap) in self.piled.items()}
        other.lost = list(self.lost)
        return other

    def new_number(self):
        """The number of the frame that is made now."""
        self.framed += 1
        return self.framed - 1

    def lose(self, letter, why):
        """Something of the letter is dropped."""
        self.lost.append((self.now, why, letter))

    def lose_frame(self, number, why):
        """A frame on a road is dropped."""
        self.lose(self.running[number][1], why)
        del self.running[number]

    def live(self, number, word):
        """A frame's beat, by its word or None: the letter that came whole by it, or None."""
        if word == "lose":
            self.lose_frame(number, "lost")
            return None
        if word == "hold":
            return None
        frame = self.running[number]
        if word == "double":
            alike = self.new_number()
            self.running[alike] = (alike,) + frame[1:]
        left = frame[7] - 1
        if left > 0:
            self.running[number] = frame[:7] + (left,)
            return None
        del self.running[number]
        return self.arrive(frame)

    def arrive(self, frame):
        """A frame is at the house to which it comes: the letter that came whole by it, or None."""
        if frame[6] == self.sent[frame[1]][2]:
            return self.join_on(frame)
        self.set_out(frame)
        return None

    def join_on(self, frame):
        """A frame at its last house goes to its letter's heap: the letter where it came whole, or None."""
        number, start, end, text = self.sent[frame[1]]
        if number not in self.piled:
            self.piled[number] = (self.now, Heap(len(text)))
        beat, heap = self.piled[number]
        heap.add(frame[2], frame[3])
        if not heap.is_whole():
            return None
        del self.piled[number]
        return number, start, end, heap.text()

    def set_out(self, frame):
        """A frame at a house that isn't its last one is put on a road, in parts if need be, or dropped."""
        number, letter, first, signs, hops, start, house, left = frame
        if hops == 0:
            self.lose(letter, "hops")
            return
        by = self.fars.next(house, self.sent[letter][2])
        if by is None:
            self.lose(letter, "noway")
            return
        delay, size = self.road_to(house, by)
        for place, part in cut(signs, size):
            mark = number if place == 0 else self.new_number()
            self.running[mark] = (mark, letter, first + place, part, hops - 1, house, by, delay)

    def road_to(self, house, by):
        """The delay and the size of the road that is up from a house to its neighbour."""
        near = {other: (delay, size) for other, delay, size in self.roads.neighbours(house)}
        return near[by]

    def break_heaps(self):
        """The heaps whose first parts came too long ago are dropped, by their letters' numbers."""
        letters = sorted(self.piled)
        for letter in letters:
            beat, heap = self.piled[letter]
            if beat <= self.now - JOIN:
                del self.piled[letter]
                self.lose(letter, "broken")
