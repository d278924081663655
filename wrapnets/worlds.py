"""The world: the deeds that may be done, and all that may be asked."""

from wrapnets.bounds import NONE
from wrapnets.deeds import check_deeds, do_deed, room_of
from wrapnets.errors import Broken, Busy, NetError, NoHand, NoPlace
from wrapnets.nets import WORD, Net

# So many rows of batches are told.
LAST_BATCHES = 10


class World:
    """A ground with rooms over it, run by deeds."""

    def __init__(self, houses, roads):
        self.net = Net(houses, roads)
        self.busy = False
        self.batch_rows = []

    def put_room(self, kind, keeper, *, over=None):
        """A room of the kind is put over the ground or over a room: its number."""
        return self.deed("put_room", (kind, keeper, over))

    def close_room(self, room):
        """The room is there no more."""
        return self.deed("close_room", (room,))

    def enter(self, room, hand, place):
        """A hand enters the room at a place."""
        return self.deed("enter", (room, hand, place))

    def leave(self, room, hand):
        """A hand leaves the room."""
        return self.deed("leave", (room, hand))

    def move(self, room, hand, place):
        """A hand goes to a place."""
        return self.deed("move", (room, hand, place))

    def send(self, room, sender, hearer, text):
        """A hand sends a text to a number, or to all where the hearer is None: the letter's number."""
        return self.deed("send", (room, sender, hearer, text))

    def put_gate(self, place, one, other, ours, theirs, may):
        """A gate is put between two rooms: its number."""
        return self.deed("put_gate", (place, one, other, ours, theirs, may))

    def close_gate(self, gate):
        """The gate is there no more."""
        return self.deed("close_gate", (gate,))

    def fall(self, a, b):
        """The road between a and b falls."""
        return self.deed("fall", (a, b))

    def rise(self, a, b):
        """The road between a and b is up again."""
        return self.deed("rise", (a, b))

    def step(self, *, weave=NONE):
        """The world goes on by a beat."""
        return self.deed("step", (weave,))

    def deed(self, word, things):
        """Does the deed of that word, with the things that it takes by place: what it tells."""
        self.check_busy()
        return do_deed(self.net, word, things)

    def batch(self, deeds, *, tell=None):
        """Does all the deeds one behind another, or none: a tuple of what they told."""
        self.check_busy()
        check_deeds(deeds)
        held = self.net.copy()
        stood = 0
        self.batch_rows.append(("begin", len(deeds)))
        self.busy = True
        try:
            told = self.do_all(deeds, tell)
            held = self.net
            stood = len(deeds)
        finally:
            # Whatever was raised, by a deed or by what was called behind it, all is as ahead.
            self.net = held
            self.busy = False
            self.batch_rows.append(("end", stood))
        return told

    def batches(self):
        """The last rows ("begin", how many deeds) and ("end", how many stand) of batches: a tuple."""
        return tuple(self.batch_rows[-LAST_BATCHES:])

    def log(self):
        """All that happened, in order: a tuple of rows."""
        return tuple(self.net.history)

    def beat(self):
        """How many beats went by."""
        return self.net.soil.beat()

    def ground(self):
        """The ground: (houses, roads, up, fars)."""
        return self.net.soil.told()

    def frames(self):
        """A tuple of the frames that are on roads, by numbers."""
        return self.net.soil.frames()

    def letters(self):
        """A tuple of the ground letters of which a frame or a heap is there, by numbers."""
        return self.net.soil.letters()

    def heaps(self):
        """A tuple of (letter, beat of its first part, places that have come), by letters."""
        return self.net.soil.heaps()

    def rooms(self):
        """Of each room that stands (number, kind, over, keeper): a tuple."""
        standing = self.net.standing
        rooms = [standing[number] for number in sorted(standing)]
        return tuple([(room.number, room.kind, room.over, room.keeper) for room in rooms])

    def hands(self, room):
        """Of each hand in the room (number, place, counter): a tuple."""
        return room_of(self.net, room).seat_rows(False)

    def aliases(self, room):
        """Of each alias in the room (number, place, counter): a tuple."""
        return room_of(self.net, room).seat_rows(True)

    def numbers(self, room):
        """Of each number that ever was in the room (number, sort, counter, place or None, its filter's rows)."""
        return room_of(self.net, room).number_rows()

    def edges(self, room):
        """The edges of the room, rising: a tuple."""
        return room_of(self.net, room).edge_places()

    def made(self):
        """How many (rooms, gates, ground letters, frames) were made so far."""
        return (self.net.rooms_put, self.net.gates_put) + self.net.soil.made()

    def table(self, room, place):
        """What an edge knows of where hands are, as (hand, place, number, beat): a tuple."""
        return self.room_with_edge(room, place).tables[place].rows()

    def notes(self, room, place):
        """What an edge knows of where hands went, as (hand, place, beat): a tuple."""
        return self.room_with_edge(room, place).slips[place].rows()

    def gates(self):
        """Of each gate that stands (number, place, one, other, ours, theirs, may): a tuple."""
        gates = self.net.open_gates
        return tuple([gates[number] for number in sorted(gates)])

    def view(self):
        """All on which what comes of later deeds depends."""
        standing = self.net.standing
        rooms = tuple([standing[number].whole_view() for number in sorted(standing)])
        ground = (self.ground(), self.frames(), self.letters(), self.heaps())
        return (self.beat(), self.made()) + ground + (self.rooms(), self.gates(), rooms)

    def ear(self, room, hand):
        """What a hand of the room heard that somebody sent, as (sender, number, text): a tuple."""
        inside = room_of(self.net, room)
        if not inside.has_hand(hand):
            raise NoHand(hand)
        ears = inside.seats[hand].ears
        return tuple([(sender, number, text[len(WORD):]) for sender, number, text in ears if text.startswith(WORD)])

    def twin(self):
        """A world that stands alike in all and goes on by itself."""
        houses, roads, up, fars = self.ground()
        other = World(houses, roads)
        other.net = self.net.copy()
        other.batch_rows = list(self.batch_rows)
        return other

    def __eq__(self, other):
        return isinstance(other, World) and self.view() == other.view()

    def __len__(self):
        return len(self.net.done)

    def __str__(self):
        return f"beat {self.beat()}, {len(self.net.standing)} rooms, {len(self.frames())} frames"

    def check_busy(self):
        """Refuses all deeds while a batch is under way."""
        if self.busy:
            raise Busy("a batch is under way")

    def do_all(self, deeds, tell):
        """Does the deeds of a batch, with a call of tell behind each: a tuple of what they told."""
        told = []
        for at, deed in enumerate(deeds):
            told.append(self.do_one(at, deed))
            if tell is not None:
                tell(self)
        return tuple(told)

    def do_one(self, at, deed):
        """Does deed number at of a batch: what it tells."""
        try:
            return do_deed(self.net, deed[0], deed[1:])
        except NetError as refusal:
            raise Broken(at) from refusal

    def room_with_edge(self, room, place):
        """The room that stands with that number, which has the place as an edge."""
        inside = room_of(self.net, room)
        if not inside.has_edge(place):
            raise NoPlace(place)
        return inside
