"""The refusals: each kind of refusal is a class of its own under NetError."""


class NetError(ValueError):
    """What every refusal of this package is."""


class BadGround(NetError):
    """No ground: at is the number of the first wrong row, None where it isn't a row that is wrong."""

    def __init__(self, at):
        NetError.__init__(self, "this is no ground")
        self.at = at


class BadWeave(NetError):
    """No weave: at is the number of the first wrong pair, None where it isn't a pair that is wrong."""

    def __init__(self, at):
        NetError.__init__(self, "this is no weave")
        self.at = at


class NoHead(NetError):
    """A text that doesn't begin with a written head."""


class BadRoom(NetError):
    """No such room can be put: word names what is wrong with it."""

    def __init__(self, word):
        NetError.__init__(self, "no such room can be put")
        self.word = word


class NoRoom(NetError):
    """There is no such room."""

    def __init__(self, room):
        NetError.__init__(self, "there is no such room")
        self.room = room


class NoNumber(NetError):
    """This is no number that a hand may have."""

    def __init__(self, number):
        NetError.__init__(self, "this is no hand's number")
        self.number = number


class Taken(NetError):
    """The number is another one's in this room, or was."""

    def __init__(self, number):
        NetError.__init__(self, "this number is taken")
        self.number = number


class NoHand(NetError):
    """There is no such hand in the room."""

    def __init__(self, hand):
        NetError.__init__(self, "there is no such hand")
        self.hand = hand


class NoPlace(NetError):
    """There is no such place."""

    def __init__(self, place):
        NetError.__init__(self, "there is no such place")
        self.place = place


class InUse(NetError):
    """Something else still stands on it."""


class Full(NetError):
    """There are as many as there may be."""


class BadText(NetError):
    """This is no text that a hand may send."""


class BadGate(NetError):
    """No such gate can be put: word names what is wrong with it."""

    def __init__(self, word):
        NetError.__init__(self, "no such gate can be put")
        self.word = word


class NoGate(NetError):
    """There is no such gate."""

    def __init__(self, gate):
        NetError.__init__(self, "there is no such gate")
        self.gate = gate


class NoRoad(NetError):
    """No road joins a and b."""

    def __init__(self, a, b):
        NetError.__init__(self, "there is no such road")
        self.a = a
        self.b = b


class Same(NetError):
    """The road is so already."""


class Long(NetError):
    """As many deeds or beats stand as may."""


class Busy(NetError):
    """A batch is under way."""


class BadDeeds(NetError):
    """These are no deeds of a batch."""


class Broken(NetError):
    """A batch whose deed number at was refused."""

    def __init__(self, at):
        NetError.__init__(self, "a deed of the batch was refused")
        self.at = at


class NoLetter(NetError):
    """There is no such letter."""


class Torn(NetError):
    """Parts that tell the sign at the place at unlike, or beyond the text."""

    def __init__(self, at):
        NetError.__init__(self, "these are no parts of one text")
        self.at = at
