"""Ways: all that the log tells of one letter of hands, and the judge of such a way."""

from wrapnets.bearing import LETTERS
from wrapnets.bounds import COUNT
from wrapnets.errors import NoLetter
from wrapnets.leading import check_put
from wrapnets.plain import is_aim, is_number

# Of each row of a way: what its parts are, behind its word. The letter's room, sender and number stand where these say.
FORMS = {
    "sent": ("number", "room", "sender", "letter", "aim", "text"),
    "wrapped": ("number", "room", "kind", "sender", "number", "letter", "number", "number", "count"),
    "heard": ("number", "room", "number", "sender", "letter", "text"),
    "dropped": ("number", "text", "room", "kind", "sender", "letter"),
    "passed": ("number", "number", "room", "sender", "letter", "number", "number", "number"),
}


def part_at(row, form):
    """The part of a row that is called so in its form."""
    return row[1 + FORMS[row[0]].index(form)]


def letter_of(row):
    """Whose letter a row is of: (room, sender, number)."""
    return part_at(row, "room"), part_at(row, "sender"), part_at(row, "letter")


def is_of_letter(row, letter):
    """Whether a row of the log is of that letter of hands."""
    if row[0] not in FORMS or letter_of(row) != letter:
        return False
    return row[0] not in ("wrapped", "dropped") or part_at(row, "kind") in LETTERS


def way_of(world, room, sender, number):
    """The rows of the log that are of a letter of hands, in order: a tuple."""
    check_put(world, room)
    if not is_number(sender) or not is_number(number):
        raise NoLetter("this is no letter")
    rows = [row for row in world.log() if is_of_letter(row, (room, sender, number))]
    if len(rows) == 0:
        raise NoLetter("there is no such letter")
    return tuple(rows)


def is_part(form, thing):
    """Whether it may stand where a row has such a part, of anything."""
    if form == "text":
        return isinstance(thing, str)
    if form == "kind":
        return thing in LETTERS
    if form == "aim":
        return is_aim(thing)
    if form == "count":
        return is_number(thing) and thing < COUNT
    return is_number(thing)


def is_way_row(thing):
    """Whether it has the form of a row of a way, of anything."""
    if not isinstance(thing, tuple) or len(thing) == 0 or not isinstance(thing[0], str) or thing[0] not in FORMS:
        return False
    forms = FORMS[thing[0]]
    if len(thing) != len(forms) + 1:
        return False
    return all([is_part(form, part) for form, part in zip(forms, thing[1:])])


def has_order(rows):
    """Whether the first row is a sent and no other one is, all are of one letter, and beats don't fall."""
    if len(rows) == 0 or rows[0][0] != "sent" or any([row[0] == "sent" for row in rows[1:]]):
        return False
    if any([letter_of(row) != letter_of(rows[0]) for row in rows]):
        return False
    return all([rows[at - 1][1] <= rows[at][1] for at in range(1, len(rows))])


def is_heard_rightly(sent, row):
    """Whether a heard row is of one that the sent one's letter is for, with its text."""
    word, beat, room, sender, number, hearer, text = sent
    hand = row[3]
    return row[6] == text and (hand == hearer or (hearer is None and hand != sender))


def are_wraps_right(wraps):
    """Whether wrapped rows begin at one place, and each that is led on goes on from where an earlier one went."""
    starts = []
    ends = []
    for word, beat, room, kind, sender, hearer, number, start, end, count in wraps:
        if kind != "f":
            starts.append(start)
        elif all([end_count <= count or place != start for place, end_count in ends]):
            return False
        ends.append((end, count))
    return all([start == starts[0] for start in starts])


def is_way(thing):
    """Whether it is a way that is right by itself, of anything."""
    if not isinstance(thing, tuple) or not all([is_way_row(row) for row in thing]) or not has_order(thing):
        return False
    if not all([is_heard_rightly(thing[0], row) for row in thing if row[0] == "heard"]):
        return False
    return are_wraps_right([row for row in thing if row[0] == "wrapped"])
