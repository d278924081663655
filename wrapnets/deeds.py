"""The deeds: what each is refused for, and what it does to a net.

Each is a function of a net and of the things that are handed in, whatever they are, by place. All refusals come ahead
of the first change, so what is refused leaves all as it was."""

from wrapnets.bounds import BATCH, BEATS, COUNT, DEEDS, GATES, HANDS, NONE, ROOMS, TEXT
from wrapnets.errors import BadDeeds, BadGate, BadRoom, BadText, Full, InUse, Long
from wrapnets.errors import NoGate, NoHand, NoNumber, NoPlace, NoRoom, Taken
from wrapnets.filters import KINDS
from wrapnets.gates import aliases_of, are_pairs, are_rules, is_hand_number
from wrapnets.nets import WORD
from wrapnets.rooms import Room
from wrapnets.things import is_whole, is_whole_within

FIRST_SIGN = 32
LAST_SIGN = 126
BARRED_SIGN = 37


def room_of(net, thing):
    """The room with that number that stands."""
    if not is_whole(thing) or thing not in net.standing:
        raise NoRoom(thing)
    return net.standing[thing]


def is_place(net, over, thing):
    """Whether it is a place of the rooms over such a net, of anything."""
    if over is None:
        return is_whole_within(thing, 0, net.soil.houses() - 1)
    return net.standing[over].has_hand(thing)


def check_hand(room, thing):
    """Refuses what is no hand that is in the room."""
    if not room.has_hand(thing):
        raise NoHand(thing)


def check_place(net, over, thing):
    """Refuses what is no place of the rooms over such a net."""
    if not is_place(net, over, thing):
        raise NoPlace(thing)


def is_net(net, thing):
    """Whether a room may lie over it, of anything."""
    if thing is None:
        return True
    return is_whole(thing) and thing in net.standing and net.standing[thing].over is None


def is_text(thing):
    """Whether it is a text that a hand may send, of anything."""
    if not isinstance(thing, str) or len(thing) > TEXT:
        return False
    return all([FIRST_SIGN <= ord(sign) <= LAST_SIGN and ord(sign) != BARRED_SIGN for sign in thing])


def put_room(net, kind, keeper, over=None):
    """A room of the kind is put over the net: its number."""
    if kind not in KINDS:
        raise BadRoom("kind")
    if not is_net(net, over):
        raise BadRoom("over")
    if not is_place(net, over, keeper):
        raise BadRoom("keeper")
    if net.rooms_put >= ROOMS:
        raise Full("as many rooms were put as may be")
    number = net.rooms_put
    net.standing[number] = Room(number, kind, over, keeper)
    net.rooms_put += 1
    return number


def close_room(net, room):
    """The room is there no more, with all in it."""
    number = room_of(net, room).number
    if any([other.over == number for other in net.standing.values()]):
        raise InUse("a room lies over this one")
    if any([number in gate[2:4] for gate in net.open_gates.values()]):
        raise InUse("a gate has this room")
    del net.standing[number]


def enter(net, room, hand, place):
    """A hand enters the room at a place."""
    entered = room_of(net, room)
    if not is_hand_number(hand):
        raise NoNumber(hand)
    if not entered.is_free(hand, False):
        raise Taken(hand)
    check_place(net, entered.over, place)
    if len(entered.present(False)) >= HANDS:
        raise Full("as many hands are there as may be")
    net.put_in(entered, hand, place, False)


def leave(net, room, hand):
    """A hand leaves the room."""
    left = room_of(net, room)
    check_hand(left, hand)
    if any([other.over == left.number and other.has_edge(hand) for other in net.standing.values()]):
        raise InUse("a room over this one has it as an edge")
    net.take_out(left, hand)


def move(net, room, hand, place):
    """A hand goes to a place."""
    inside = room_of(net, room)
    check_hand(inside, hand)
    check_place(net, inside.over, place)
    net.move_to(inside, hand, place)


def send(net, room, sender, hearer, text):
    """A hand sends a text to a number, or to all where the hearer is None: the letter's number."""
    inside = room_of(net, room)
    check_hand(inside, sender)
    if hearer is not None and not is_hand_number(hearer):
        raise NoNumber(hearer)
    if not is_text(text):
        raise BadText("this is no text that may be sent")
    return net.send_letter(inside, sender, hearer, WORD + text, COUNT)


def are_free_pairs(room, thing):
    """Whether they are pairs whose aliases are free in their room, of anything."""
    return are_pairs(thing) and all([room.is_free(alias, True) for alias in aliases_of(thing)])


def put_gate(net, place, one, other, ours, theirs, may):
    """A gate is put between two rooms: its number."""
    near = room_of(net, one)
    far = room_of(net, other)
    if near.number == far.number or near.over != far.over:
        raise BadGate("rooms")
    check_place(net, near.over, place)
    if not are_free_pairs(near, ours):
        raise BadGate("ours")
    if not are_free_pairs(far, theirs):
        raise BadGate("theirs")
    if not are_rules(may):
        raise BadGate("may")
    if net.gates_put >= GATES:
        raise Full("as many gates were put as may be")
    number = net.gates_put
    net.set_gate((number, place, one, other, ours, theirs, may))
    return number


def close_gate(net, gate):
    """The gate is there no more, nor are its aliases."""
    if not is_whole(gate) or gate not in net.open_gates:
        raise NoGate(gate)
    net.take_gate(gate)


def fall(net, a, b):
    """The road between a and b falls."""
    net.fall(a, b)


def rise(net, a, b):
    """The road between a and b is up again."""
    net.soil.rise(a, b)


def step(net, weave=NONE):
    """The world goes on by a beat."""
    net.go_on(weave)


STEP = "step"
ACTIONS = {
    "put_room": put_room, "close_room": close_room, "enter": enter, "leave": leave, "move": move, "send": send,
    "put_gate": put_gate, "close_gate": close_gate, "fall": fall, "rise": rise, "step": step,
}
# How many things each takes by place; of two of them the last may be left out.
TAKES = {
    "put_room": 3, "close_room": 1, "enter": 3, "leave": 2, "move": 3, "send": 4, "put_gate": 6, "close_gate": 1,
    "fall": 2, "rise": 2, "step": 1,
}
SHORTER = ("put_room", "step")


def is_deed(thing):
    """Whether it is a tuple of a deed's word and as many things as it takes, of anything."""
    if not isinstance(thing, tuple) or len(thing) == 0:
        return False
    word = thing[0]
    if not isinstance(word, str) or word not in TAKES:
        return False
    many = len(thing) - 1
    return many == TAKES[word] or (word in SHORTER and many == TAKES[word] - 1)


def check_deeds(deeds):
    """Refuses what are no deeds of a batch."""
    if not isinstance(deeds, tuple) or len(deeds) > BATCH or not all([is_deed(deed) for deed in deeds]):
        raise BadDeeds("these are no deeds of a batch")


def do_deed(net, word, things):
    """Does the deed of that word: what it tells."""
    many, most = (net.soil.beat(), BEATS) if word == STEP else (len(net.done), DEEDS)
    if many >= most:
        raise Long("as many deeds or beats stand as may")
    action = ACTIONS[word]
    told = action(net, *things)
    if word != STEP:
        net.done.append(word)
    return told
