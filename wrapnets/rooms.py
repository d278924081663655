"""Rooms: who is in one, where, and what its edges know."""

from wrapnets.filters import filter_of
from wrapnets.tables import Notes, Table
from wrapnets.things import is_whole


class Seat:
    """A number of a room, with what it keeps though its hand leaves and enters again."""

    def __init__(self, is_alias, sieve):
        self.is_alias = is_alias
        self.sieve = sieve
        # None while nobody with this number is in the room.
        self.place = None
        self.counter = 0
        # Of each letter that it heard (sender, number, text with its sign ahead).
        self.ears = []

    def take_number(self):
        """The counter, which is one more then."""
        self.counter += 1
        return self.counter - 1

    def copy(self):
        """A seat that stands alike and goes on by itself."""
        other = Seat(self.is_alias, self.sieve.copy())
        other.place = self.place
        other.counter = self.counter
        other.ears = list(self.ears)
        return other


class Room:
    """A room over the ground, where over is None, or over the room of that number."""

    def __init__(self, number, kind, over, keeper):
        self.number = number
        self.kind = kind
        self.over = over
        self.keeper = keeper
        self.seats = {}
        # Of each edge its table, and its notes.
        self.tables = {}
        self.slips = {}
        self.add_edge(keeper)

    def add_edge(self, place):
        """The place is an edge from now on."""
        if place not in self.tables:
            self.tables[place] = Table()
            self.slips[place] = Notes()

    def edge_places(self):
        """The edges, rising: a tuple."""
        return tuple(sorted(self.tables))

    def edges_but(self, place):
        """The edges other than the place, rising: a tuple."""
        return tuple([edge for edge in self.edge_places() if edge != place])

    def whereabouts(self, number):
        """The place of a hand or an alias, None where it isn't in the room."""
        if number not in self.seats:
            return None
        return self.seats[number].place

    def has_hand(self, thing):
        """Whether it is a hand that is in the room, of anything."""
        if not is_whole(thing) or thing not in self.seats:
            return False
        seat = self.seats[thing]
        return seat.place is not None and not seat.is_alias

    def has_edge(self, thing):
        """Whether it is an edge, of anything."""
        return is_whole(thing) and thing in self.tables

    def is_free(self, number, is_alias):
        """Whether a hand, or an alias, may have the number now."""
        if number not in self.seats:
            return True
        seat = self.seats[number]
        return seat.place is None and seat.is_alias == is_alias

    def present(self, is_alias):
        """The numbers of the hands, or of the aliases, that are in the room, rising: a list."""
        seats = self.seats
        there = [number for number in seats if seats[number].place is not None]
        return sorted([number for number in there if seats[number].is_alias == is_alias])

    def hands_at(self, place):
        """The hands at a place, rising: a list."""
        return [hand for hand in self.present(False) if self.seats[hand].place == place]

    def take_seat(self, number, is_alias):
        """The number is a hand's, or an alias's, from now on."""
        if number not in self.seats:
            self.seats[number] = Seat(is_alias, filter_of(self.kind))

    def seat_at(self, number, place):
        """Who has the number is at the place, and what the place knew of where it is or went is no more so."""
        self.add_edge(place)
        self.seats[number].place = place
        self.tables[place].drop(number)
        self.slips[place].drop(number)

    def has_note_since(self, place, number, beat):
        """Whether the place has a note of the number that isn't elder than the beat."""
        note = self.slips[place].get(number)
        return note is not None and note[1] >= beat

    def known_to_keeper(self):
        """Where the numbers are, as the keeper has it, rising: a list of (number, place, number of its last news)."""
        rows = {row[0]: row for row in self.tables[self.keeper].rows()}
        known = []
        for number in sorted(self.seats):
            if self.seats[number].place == self.keeper:
                known.append((number, self.keeper, self.seats[number].counter - 1))
            elif number in rows:
                known.append(rows[number][:3])
        return known

    def seat_rows(self, is_alias):
        """Of each hand, or of each alias, that is in the room (number, place, counter): a tuple."""
        numbers = self.present(is_alias)
        return tuple([(number, self.seats[number].place, self.seats[number].counter) for number in numbers])

    def number_rows(self):
        """Of each number that ever was there (number, sort, counter, place or None, its filter's rows): a tuple."""
        told = []
        for number in sorted(self.seats):
            seat = self.seats[number]
            sort = "alias" if seat.is_alias else "hand"
            told.append((number, sort, seat.counter, seat.place, seat.sieve.rows()))
        return tuple(told)

    def whole_view(self):
        """The room's number, its numbers, and of each edge (place, table, notes)."""
        edges = [(place, self.tables[place].rows(), self.slips[place].rows()) for place in self.edge_places()]
        return self.number, self.number_rows(), tuple(edges)

    def copy(self):
        """A room that stands alike and goes on by itself."""
        other = Room(self.number, self.kind, self.over, self.keeper)
        other.seats = {number: self.seats[number].copy() for number in self.seats}
        other.tables = {place: self.tables[place].copy() for place in self.tables}
        other.slips = {place: self.slips[place].copy() for place in self.slips}
        return other
