"""The net: the ground, the rooms over it and the gates between them, and how letters go there.

A letter on its way is a head, as wrapnets.heads has it, and a text with its sign ahead: WORD ahead of what somebody
sent, BEARS ahead of a written letter of a room over this one. Its count is what is left of it."""

from wrapnets.bounds import COUNT
from wrapnets.gates import aliases_of, has_alias, may_pass
from wrapnets.ground import Ground
from wrapnets.heads import read, written

WORD = "."
BEARS = "!"


def as_kind(head, kind):
    """The head with another kind."""
    return head[:1] + (kind,) + head[2:]


def with_hearer(head, hearer):
    """The head with another hearer."""
    return head[:3] + (hearer,) + head[4:]


def with_count(head, count):
    """The head with another count."""
    return head[:5] + (count,) + head[6:]


class Net:
    """All that deeds change, but for a world's batches."""

    def __init__(self, houses, roads):
        self.soil = Ground(houses, roads)
        # How many of the ground's drops stand in the history.
        self.drops_seen = 0
        self.standing = {}
        self.rooms_put = 0
        self.open_gates = {}
        self.gates_put = 0
        self.history = []
        # The words of the deeds that stand, but for steps.
        self.done = []

    def copy(self):
        """A net that stands alike in all and goes on by itself."""
        houses, roads, up, fars = self.soil.told()
        other = Net(houses, roads)
        other.soil = self.soil.copy()
        other.drops_seen = self.drops_seen
        other.standing = {number: self.standing[number].copy() for number in self.standing}
        other.rooms_put = self.rooms_put
        other.open_gates = dict(self.open_gates)
        other.gates_put = self.gates_put
        other.history = list(self.history)
        other.done = list(self.done)
        return other

    def write_down(self, word, things):
        """A row of the history, with the beat now."""
        self.history.append((word, self.soil.beat()) + things)

    def write_dropped(self, why, head):
        """Something of a letter with such a head is dropped."""
        room, kind, sender, hearer, number, count, beat = head
        self.write_down("dropped", (why, room, kind, sender, number))

    def write_ground_drops(self):
        """What the ground dropped since it was last looked at."""
        drops = self.soil.drops_from(self.drops_seen)
        for beat, why, paper in drops:
            self.write_dropped(why, read(paper)[0])
        self.drops_seen += len(drops)

    def go_on(self, weave):
        """A beat by the weave; then what came whole comes."""
        came = self.soil.step(weave)
        self.write_ground_drops()
        for letter, start, end, paper in came:
            self.come(start, end, paper)

    def fall(self, a, b):
        """The road falls, and what is on it."""
        self.soil.fall(a, b)
        self.write_ground_drops()

    def send_letter(self, room, sender, hearer, text, count):
        """A letter of the sender is sent, to all where the hearer is None: its number."""
        seat = room.seats[sender]
        number = seat.take_number()
        self.write_down("sent", (room.number, sender, number, hearer, text))
        aim = 0 if hearer is None else hearer
        head = (room.number, "l", sender, aim, number, count, self.soil.beat())
        if hearer is None:
            self.hear_all(room, seat.place, head, text)
            self.wrap_to_edges(room, seat.place, as_kind(head, "a"), text)
        elif room.whereabouts(hearer) == seat.place:
            self.hear(room, hearer, head, text)
        else:
            self.send_away(room, seat.place, head, text)
        return number

    def send_away(self, room, place, head, text):
        """A letter to a hearer that isn't at the place sets out from there."""
        known = room.tables[place].look(head[3], self.soil.beat())
        if known is None or known == place:
            self.wrap_to_edges(room, place, as_kind(head, "u"), text)
        else:
            self.wrap(room, place, known, head, text)

    def wrap_to_edges(self, room, place, head, text):
        """A letter is wrapped from the place to each other edge."""
        for edge in room.edges_but(place):
            self.wrap(room, place, edge, head, text)

    def wrap(self, room, start, end, head, text):
        """A letter goes over the net beneath, from a place to another one."""
        number, kind, sender, hearer, letter, count, beat = head
        if count == 0:
            self.write_dropped("count", head)
            return
        self.write_down("wrapped", (number, kind, sender, hearer, letter, start, end, count - 1))
        paper = written(with_count(head, count - 1), text)
        if room.over is None:
            self.soil.send(start, end, paper)
            self.write_ground_drops()
        else:
            self.send_letter(self.standing[room.over], start, end, BEARS + paper, COUNT)

    def come(self, start, end, paper):
        """What was wrapped comes over the net beneath, from a place to another one."""
        head, text = read(paper)
        number, kind, sender, hearer, letter, count, beat = head
        if number not in self.standing:
            self.write_dropped("noroom", head)
            return
        room = self.standing[number]
        if kind in ("l", "u", "a"):
            self.learn_news(room, end, (sender, start, letter))
        if kind == "h":
            self.keeper_knows(room, (sender, hearer, letter))
        elif kind == "t":
            self.learn_news(room, end, (sender, hearer, letter))
        elif kind == "a":
            self.come_to_all(room, end, head, text)
        else:
            self.come_to_one(room, end, head, text)

    def come_to_one(self, room, place, head, text):
        """A letter to a hearer comes to the place."""
        number, kind, sender, hearer, letter, count, beat = head
        if room.whereabouts(hearer) == place:
            self.hear(room, hearer, head, text)
        # Sent to all edges, it is of use only where the hearer may have been as it was sent.
        elif kind != "u" or room.has_note_since(place, hearer, beat):
            self.lead_on(room, place, head, text)

    def lead_on(self, room, place, head, text):
        """A letter to a hearer that isn't at the place goes on from there, if the place knows whereto."""
        now = self.soil.beat()
        hearer = head[3]
        if room.slips[place].is_fresh(hearer, now):
            further = room.slips[place].get(hearer)[0]
        else:
            further = room.tables[place].look(hearer, now)
        if further is None or further == place:
            self.write_dropped("gone", head)
        else:
            self.wrap(room, place, further, as_kind(head, "f"), text)

    def come_to_all(self, room, place, head, text):
        """A letter to all comes to the place, and goes on to each that went from there meanwhile."""
        number, kind, sender, hearer, letter, count, beat = head
        self.hear_all(room, place, head, text)
        slips = room.slips[place]
        went = [row[0] for row in slips.rows() if row[2] >= beat and row[0] != sender]
        for hand in went:
            if room.whereabouts(hand) == place:
                continue
            if slips.is_fresh(hand, self.soil.beat()):
                self.wrap(room, place, slips.get(hand)[0], with_hearer(as_kind(head, "f"), hand), text)
            else:
                self.write_dropped("gone", head)

    def hear_all(self, room, place, head, text):
        """Each hand at the place but the sender hears the letter."""
        for hand in room.hands_at(place):
            if hand != head[2]:
                self.hear(room, hand, head, text)

    def hear(self, room, hand, head, text):
        """A hand or an alias hears a letter, if its filter takes it."""
        number, kind, sender, hearer, letter, count, beat = head
        seat = room.seats[hand]
        word = seat.sieve.takes(sender, letter)
        if word != "heard":
            self.write_dropped(word, head)
            return
        self.write_down("heard", (number, hand, sender, letter, text))
        seat.ears.append((sender, letter, text))
        if seat.is_alias:
            self.pass_on(room, hand, head, text)
        elif text.startswith(BEARS):
            self.come(sender, hand, text[len(BEARS):])

    def gate_with(self, room, alias):
        """The gate whose alias it is in the room."""
        found = [gate for gate in self.open_gates.values() if has_alias(gate, room, alias)]
        return found[0]

    def pass_on(self, room, alias, head, text):
        """A letter that an alias heard goes into the other room, if a rule lets it."""
        number, kind, sender, hearer, letter, count, beat = head
        gate = self.gate_with(number, alias)
        beyond = may_pass(gate, number, sender, alias)
        if beyond is None or not text.startswith(WORD):
            self.write_dropped("rule", head)
        elif count == 0:
            self.write_dropped("count", head)
        else:
            other = self.standing[beyond[0]]
            known_as, behind = beyond[1:]
            there = other.seats[known_as].counter
            self.write_down("passed", (gate[0], number, sender, letter, other.number, known_as, there))
            self.send_letter(other, known_as, behind, text, count - 1)

    def learn_news(self, room, place, news):
        """The table of the place learns the news (hand, place, number), unless the hand is there itself."""
        hand, where, number = news
        if room.whereabouts(hand) != place:
            room.tables[place].learn(hand, where, number, self.soil.beat())

    def keeper_knows(self, room, news):
        """The keeper knows the news (hand, place, number) and tells them; whose they are it tells of the others."""
        keeper = room.keeper
        hand, place, number = news
        if place != keeper:
            self.learn_news(room, keeper, news)
        for edge in room.edges_but(keeper):
            if edge != place:
                self.tell_news(room, edge, news)
        if place == keeper:
            return
        others = room.known_to_keeper()
        for row in others:
            if row[0] != hand and row[1] != place:
                self.tell_news(room, place, row)

    def tell_news(self, room, edge, news):
        """The keeper tells an edge the news (hand, place, number)."""
        hand, place, number = news
        self.wrap(room, room.keeper, edge, (room.number, "t", hand, place, number, COUNT, self.soil.beat()), "")

    def put_in(self, room, number, place, is_alias):
        """A hand or an alias enters the room."""
        room.take_seat(number, is_alias)
        self.write_down("came", (room.number, number, "alias" if is_alias else "hand"))
        self.put_at(room, number, place)

    def put_at(self, room, number, place):
        """A hand or an alias is put to a place, and the keeper gets to know."""
        room.seat_at(number, place)
        here = room.seats[number].take_number()
        if place == room.keeper:
            self.keeper_knows(room, (number, place, here))
        else:
            head = (room.number, "h", number, place, here, COUNT, self.soil.beat())
            self.wrap(room, place, room.keeper, head, "")

    def move_to(self, room, hand, place):
        """A hand moves to a place, and the place where it was notes it; to its own place nothing comes of it."""
        now = self.soil.beat()
        old = room.whereabouts(hand)
        if old == place:
            return
        room.slips[old].put(hand, place, now)
        room.tables[old].learn(hand, place, room.seats[hand].counter, now)
        self.put_at(room, hand, place)

    def take_out(self, room, number):
        """A hand or an alias leaves the room."""
        self.write_down("went", (room.number, number))
        seat = room.seats[number]
        room.slips[seat.place].put(number, None, self.soil.beat())
        seat.place = None

    def set_gate(self, gate):
        """A gate is put, and its aliases to its place."""
        number, place, one, other, ours, theirs, may = gate
        self.open_gates[number] = gate
        self.gates_put += 1
        for room, pairs in ((one, ours), (other, theirs)):
            for alias in aliases_of(pairs):
                self.put_in(self.standing[room], alias, place, True)

    def take_gate(self, number):
        """A gate is closed, and its aliases leave."""
        number, place, one, other, ours, theirs, may = self.open_gates.pop(number)
        for room, pairs in ((one, ours), (other, theirs)):
            for alias in aliases_of(pairs):
                self.take_out(self.standing[room], alias)
