"""Gates: which letters go from one room into the other one, and as whose.

A gate is a tuple (number, place, one, other, ours, theirs, may): ours are pairs (hand of the other room, alias in the
one), theirs pairs (hand of the one, alias in the other one), may rows (word, sender, hearer)."""

from wrapnets.bounds import HANDS, NUMBERS
from wrapnets.things import is_whole_within

# Out of the one room into the other one, and the other way round.
OUT = "out"
IN = "in"


def is_hand_number(thing):
    """Whether it is a number that a hand or an alias may have, of anything."""
    return is_whole_within(thing, 0, NUMBERS - 1)


def is_pair(thing):
    """Whether it is a pair (hand, alias), of anything."""
    if not isinstance(thing, tuple) or len(thing) != 2:
        return False
    return is_hand_number(thing[0]) and is_hand_number(thing[1])


def are_pairs(thing):
    """Whether they are pairs as of ours and theirs, no hand and no alias twice, of anything."""
    if not isinstance(thing, tuple) or len(thing) > HANDS or not all([is_pair(pair) for pair in thing]):
        return False
    hands = {hand: True for hand, alias in thing}
    aliases = {alias: True for hand, alias in thing}
    return len(hands) == len(thing) and len(aliases) == len(thing)


def is_rule(thing):
    """Whether it is a row (word, sender, hearer), of anything."""
    if not isinstance(thing, tuple) or len(thing) != 3:
        return False
    return thing[0] in (OUT, IN) and is_hand_number(thing[1]) and is_hand_number(thing[2])


def are_rules(thing):
    """Whether they are rows as of may, of anything."""
    return isinstance(thing, tuple) and len(thing) <= 2 * HANDS and all([is_rule(row) for row in thing])


def aliases_of(pairs):
    """The aliases of ours or of theirs, rising: a list."""
    return sorted([alias for hand, alias in pairs])


def has_alias(gate, room, alias):
    """Whether the gate put that alias into that room."""
    number, place, one, other, ours, theirs, may = gate
    return (room == one and alias in aliases_of(ours)) or (room == other and alias in aliases_of(theirs))


def hand_behind(pairs, alias):
    """The hand that the alias stands for, None where it is none of these."""
    for hand, known_as in pairs:
        if known_as == alias:
            return hand
    return None


def alias_of(pairs, hand):
    """The alias that stands for the hand, None where there's none of it."""
    for known, alias in pairs:
        if known == hand:
            return alias
    return None


def may_pass(gate, room, sender, alias):
    """How a letter of the sender that the alias heard in the room goes on: (other room, alias, hearer), or None."""
    number, place, one, other, ours, theirs, may = gate
    if room == one:
        word, beyond, heard_by, sent_by = OUT, other, ours, theirs
    elif room == other:
        word, beyond, heard_by, sent_by = IN, one, theirs, ours
    else:
        return None
    hearer = hand_behind(heard_by, alias)
    known_as = alias_of(sent_by, sender)
    if known_as is None or (word, sender, hearer) not in may:
        return None
    return beyond, known_as, hearer
