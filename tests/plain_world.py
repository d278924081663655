"""A world written once more, as plainly as the document says it, to be laid beside wrapnets.worlds.

It takes right deeds alone: what is refused is tested elsewhere."""

from tests.plain_ground import PlainGround


def head_text(head, text):
    return "{}.{}.{}.{}.{}.{}.{}:".format(*head) + text


def parted(paper):
    front, text = paper.split(":", 1)
    parts = front.split(".")
    return [int(part) if at != 1 else part for at, part in enumerate(parts)], text


class PlainWorld:
    def __init__(self, houses, roads):
        self.ground = PlainGround(houses, roads)
        self.rows = []
        self.rooms = {}
        self.gates = {}
        self.rooms_made = self.gates_made = self.deeds = self.drops_told = 0

    @property
    def now(self):
        return self.ground.beat

    def row(self, word, *things):
        self.rows.append((word, self.now) + things)

    def dropped(self, why, head):
        self.row("dropped", why, head[0], head[1], head[2], head[4])

    def look_at_drops(self):
        for beat, why, letter in self.ground.drops[self.drops_told:]:
            head, text = parted(self.ground.letters[letter][3])
            self.rows.append(("dropped", beat, why, head[0], head[1], head[2], head[4]))
        self.drops_told = len(self.ground.drops)

    # deeds

    def put_room(self, kind, keeper, over=None):
        number = self.rooms_made
        self.rooms[number] = {"kind": kind, "over": over, "keeper": keeper, "people": {}, "edges": {keeper: ({}, {})}}
        self.rooms_made += 1
        return number

    def close_room(self, room):
        del self.rooms[room]

    def enter(self, room, hand, place):
        self.come_in(room, hand, place, "hand")

    def come_in(self, room, number, place, sort):
        new = {"sort": sort, "counter": 0, "place": None, "heard": []}
        self.rooms[room]["people"].setdefault(number, new)
        self.row("came", room, number, sort)
        self.put(room, number, place)

    def leave(self, room, hand):
        person = self.rooms[room]["people"][hand]
        self.row("went", room, hand)
        self.rooms[room]["edges"][person["place"]][1][hand] = (None, self.now)
        person["place"] = None

    def move(self, room, hand, place):
        person = self.rooms[room]["people"][hand]
        old = person["place"]
        if old != place:
            table, notes = self.rooms[room]["edges"][old]
            notes[hand] = (place, self.now)
            person["place"] = None
            self.learn(room, old, hand, place, person["counter"])
            self.put(room, hand, place)

    def send(self, room, sender, hearer, text):
        return self.sent(room, sender, hearer, "." + text, 4)

    def put_gate(self, place, one, other, ours, theirs, may):
        number = self.gates_made
        self.gates[number] = (number, place, one, other, ours, theirs, may)
        self.gates_made += 1
        for alias in sorted(pair[1] for pair in ours):
            self.come_in(one, alias, place, "alias")
        for alias in sorted(pair[1] for pair in theirs):
            self.come_in(other, alias, place, "alias")
        return number

    def close_gate(self, gate):
        number, place, one, other, ours, theirs, may = self.gates.pop(gate)
        for alias in sorted(pair[1] for pair in ours):
            self.leave(one, alias)
        for alias in sorted(pair[1] for pair in theirs):
            self.leave(other, alias)

    def fall(self, a, b):
        self.ground.fall(a, b)
        self.look_at_drops()

    def rise(self, a, b):
        self.ground.rise(a, b)

    def step(self, weave=()):
        came = self.ground.step(weave)
        self.look_at_drops()
        for number, start, end, paper in came:
            self.comes(start, end, paper)

    # [15]

    def sent(self, room, sender, hearer, text, count):
        person = self.rooms[room]["people"][sender]
        number, p = person["counter"], person["place"]
        person["counter"] += 1
        self.row("sent", room, sender, number, hearer, text)
        if hearer is None:
            for hand in self.at(room, p):
                if hand != sender and self.sort(room, hand) == "hand":
                    self.hears(room, hand, sender, number, text, count, "l")
            for edge in sorted(self.rooms[room]["edges"]):
                if edge != p:
                    self.wrapped(p, edge, [room, "a", sender, 0, number, count, self.now], text)
        elif hearer in self.at(room, p):
            self.hears(room, hearer, sender, number, text, count, "l")
        else:
            place = self.looked_up(room, p, hearer)
            if place is not None and place != p:
                self.wrapped(p, place, [room, "l", sender, hearer, number, count, self.now], text)
            else:
                for edge in sorted(self.rooms[room]["edges"]):
                    if edge != p:
                        self.wrapped(p, edge, [room, "u", sender, hearer, number, count, self.now], text)
        return number

    # [16]

    def wrapped(self, p, q, head, text):
        room, kind, sender, hearer, number, count, beat = head
        if count == 0:
            self.dropped("count", head)
            return
        self.row("wrapped", room, kind, sender, hearer, number, p, q, count - 1)
        paper = head_text([room, kind, sender, hearer, number, count - 1, beat], text)
        over = self.rooms[room]["over"]
        if over is None:
            self.ground.send(p, q, paper)
            self.look_at_drops()
        else:
            self.sent(over, p, q, "!" + paper, 4)

    # [17]

    def comes(self, p, q, paper):
        head, text = parted(paper)
        room, kind, sender, hearer, number, count, beat = head
        if room not in self.rooms:
            self.dropped("noroom", head)
            return
        table, notes = self.rooms[room]["edges"][q]
        if kind in "lua":
            self.learn(room, q, sender, p, number)
        if kind in "lf":
            if hearer in self.at(room, q):
                self.hears(room, hearer, sender, number, text, count, kind)
            else:
                self.led_on(room, q, head, text)
        if kind == "u":
            if hearer in self.at(room, q):
                self.hears(room, hearer, sender, number, text, count, kind)
            elif hearer in notes and notes[hearer][1] >= beat:
                self.led_on(room, q, head, text)
        if kind == "a":
            for hand in self.at(room, q):
                if hand != sender and self.sort(room, hand) == "hand":
                    self.hears(room, hand, sender, number, text, count, kind)
            for hand in sorted(notes):
                if notes[hand][1] >= beat and hand != sender and hand not in self.at(room, q):
                    if self.fresh(notes, hand):
                        self.wrapped(q, notes[hand][0], [room, "f", sender, hand, number, count, beat], text)
                    else:
                        self.dropped("gone", head)
        if kind == "h":
            self.knows(room, sender, hearer, number)
        if kind == "t":
            self.learn(room, q, sender, hearer, number)

    def led_on(self, room, q, head, text):
        table, notes = self.rooms[room]["edges"][q]
        hearer = head[3]
        onward = [head[0], "f"] + head[2:]
        if self.fresh(notes, hearer):
            self.wrapped(q, notes[hearer][0], onward, text)
        elif self.looked_up(room, q, hearer) not in (None, q):
            self.wrapped(q, self.looked_up(room, q, hearer), onward, text)
        else:
            self.dropped("gone", head)

    # [18] and [22]

    def hears(self, room, hand, sender, number, text, count, kind):
        head = [room, kind, sender, hand, number, count, 0]
        person = self.rooms[room]["people"][hand]
        pairs = [row[:2] for row in person["heard"]]
        if self.rooms[room]["kind"] == "once" and (sender, number) in pairs:
            return self.dropped("again", head)
        if self.rooms[room]["kind"] == "row" and any(a == sender and n >= number for a, n in pairs):
            return self.dropped("late", head)
        person["heard"].append((sender, number, text))
        self.row("heard", room, hand, sender, number, text)
        if person["sort"] == "hand":
            if text[0] == "!":
                self.comes(sender, hand, text[1:])
            return
        for gate, place, one, other, ours, theirs, may in self.gates.values():
            for here, there, mine, yours, word in ((one, other, ours, theirs, "out"), (other, one, theirs, ours, "in")):
                if here == room and hand in [pair[1] for pair in mine]:
                    [behind] = [pair[0] for pair in mine if pair[1] == hand]
                    names = [pair[1] for pair in yours if pair[0] == sender]
                    if not names or (word, sender, behind) not in may or text[0] != ".":
                        return self.dropped("rule", head)
                    if count == 0:
                        return self.dropped("count", head)
                    counter = self.rooms[there]["people"][names[0]]["counter"]
                    self.row("passed", gate, room, sender, number, there, names[0], counter)
                    self.sent(there, names[0], behind, text, count - 1)
                    return

    # [19]

    def put(self, room, number, place):
        person = self.rooms[room]["people"][number]
        table, notes = self.rooms[room]["edges"].setdefault(place, ({}, {}))
        table.pop(number, None)
        notes.pop(number, None)
        person["place"] = place
        counter, keeper = person["counter"], self.rooms[room]["keeper"]
        if place == keeper:
            self.knows(room, number, place, counter)
        else:
            self.wrapped(place, keeper, [room, "h", number, place, counter, 4, self.now], "")
        person["counter"] += 1

    def knows(self, room, hand, place, number):
        keeper = self.rooms[room]["keeper"]
        people = self.rooms[room]["people"]
        if place != keeper:
            self.learn(room, keeper, hand, place, number)
        for edge in sorted(self.rooms[room]["edges"]):
            if edge not in (keeper, place):
                self.wrapped(keeper, edge, [room, "t", hand, place, number, 4, self.now], "")
        if place != keeper:
            table = self.rooms[room]["edges"][keeper][0]
            for other in range(16):
                if other == hand:
                    continue
                if other in self.at(room, keeper):
                    told = (keeper, people[other]["counter"] - 1)
                elif other in table and table[other][0] != place:
                    told = table[other][:2]
                else:
                    continue
                self.wrapped(keeper, place, [room, "t", other, told[0], told[1], 4, self.now], "")

    # small things

    def at(self, room, place):
        people = self.rooms[room]["people"]
        return [number for number in sorted(people) if people[number]["place"] == place]

    def sort(self, room, number):
        return self.rooms[room]["people"][number]["sort"]

    def learn(self, room, q, hand, place, number):
        table = self.rooms[room]["edges"][q][0]
        if hand not in self.at(room, q) and (hand not in table or table[hand][1] <= number):
            table[hand] = (place, number, self.now)

    def looked_up(self, room, q, hand):
        table = self.rooms[room]["edges"][q][0]
        return table[hand][0] if hand in table and self.now - table[hand][2] <= 10 else None

    def fresh(self, notes, hand):
        return hand in notes and notes[hand][0] is not None and self.now - notes[hand][1] <= 5

    def filter_rows(self, room, number):
        pairs = [row[:2] for row in self.rooms[room]["people"][number]["heard"]]
        if self.rooms[room]["kind"] == "once":
            return tuple(sorted(pairs))
        if self.rooms[room]["kind"] == "row":
            return tuple(sorted({a: n for a, n in pairs}.items()))
        return ()

    def ears(self):
        """What each hand that is there heard with a point ahead, by room and hand."""
        told = {}
        for room, parts in self.rooms.items():
            for number, person in parts["people"].items():
                if person["sort"] == "hand" and person["place"] is not None:
                    heard = [(a, n, text[1:]) for a, n, text in person["heard"] if text[0] == "."]
                    told[room, number] = tuple(heard)
        return told

    def view(self):
        seen = self.ground.seen()
        rooms = []
        for room in sorted(self.rooms):
            people = self.rooms[room]["people"]
            numbers = tuple(
                (n, people[n]["sort"], people[n]["counter"], people[n]["place"], self.filter_rows(room, n))
                for n in sorted(people))
            edges = tuple(
                (place, tuple((n,) + row for n, row in sorted(table.items())),
                 tuple((n,) + row for n, row in sorted(notes.items())))
                for place, (table, notes) in sorted(self.rooms[room]["edges"].items()))
            rooms.append((room, numbers, edges))
        standing = tuple((n, r["kind"], r["over"], r["keeper"]) for n, r in sorted(self.rooms.items()))
        made = (self.rooms_made, self.gates_made) + seen["made"]
        return (self.now, made, seen["told"], seen["frames"], seen["letters"], seen["heaps"], standing,
                tuple(self.gates[number] for number in sorted(self.gates)), tuple(rooms))
