"""A desk: lines are said to a world, and answered in words."""

from wrapnets.bearing import sent_texts
from wrapnets.errors import BadGate, BadRoom, BadText, BadWeave, Busy, Full, InUse, Long
from wrapnets.errors import NoGate, NoHand, NoLetter, NoNumber, NoPlace, NoRoad, NoRoom, Same, Taken
from wrapnets.leading import lost_letters, open_letters
from wrapnets.lines import NOTHING, NoLine, read_line, said_text
from wrapnets.truth import is_quiet
from wrapnets.ways import way_of


def last_why(world, room, letter):
    """Why something of a letter, or of what bore it, was last dropped; None where nothing was."""
    log = world.log()
    texts = sent_texts(log)
    whys = [row[2] for row in log if row[0] == "dropped" and letter in lost_letters(room, texts, row)]
    return whys[-1] if len(whys) > 0 else None


def where(world, room, sender, number):
    """What came of a letter of hands."""
    way = way_of(world, room, sender, number)
    letter = (sender, number)
    told = []
    hearers = {row[3]: True for row in way if row[0] == "heard"}
    if len(hearers) > 0:
        told.append(f"heard {len(hearers)}")
    why = last_why(world, room, letter)
    if why is not None:
        told.append(f"dropped {why}")
    if letter in open_letters(world, room):
        told.append("under way")
    return " ".join(told) if len(told) > 0 else "nowhere"


def ear(world, room, hand):
    """What a hand heard."""
    heard = [f"{sender}.{number}={said_text(text)}" for sender, number, text in world.ear(room, hand)]
    return " ".join(heard) if len(heard) > 0 else NOTHING


def answer(world, word, things):
    """What is answered to a deed or a question that isn't refused."""
    if word == "where":
        return where(world, *things)
    if word == "ear":
        return ear(world, *things)
    if word == "beat":
        return str(world.beat())
    if word == "quiet":
        return "yes" if is_quiet(world) else "no"
    told = world.deed(word, things)
    return "done" if told is None else f"done {told}"


def answer_to_rooms(world, word, things):
    """The answer, also where it is refused for what is asked of rooms and of who is in them."""
    try:
        return answer(world, word, things)
    except NoRoom:
        return "no NoRoom"
    except NoNumber:
        return "no NoNumber"
    except Taken:
        return "no Taken"
    except NoHand:
        return "no NoHand"
    except NoPlace:
        return "no NoPlace"
    except InUse:
        return "no InUse"
    except BadRoom:
        return "no BadRoom"
    except BadText:
        return "no BadText"
    except NoLetter:
        return "no NoLetter"


def answer_to_all(world, word, things):
    """The answer, or "no" and the name of the refusal."""
    try:
        return answer_to_rooms(world, word, things)
    except BadGate:
        return "no BadGate"
    except NoGate:
        return "no NoGate"
    except NoRoad:
        return "no NoRoad"
    except Same:
        return "no Same"
    except BadWeave:
        return "no BadWeave"
    except Full:
        return "no Full"
    except Long:
        return "no Long"
    except Busy:
        return "no Busy"


class Desk:
    """A desk at a world."""

    def __init__(self, world):
        self.world = world

    def say(self, line):
        """Does or answers what the line, anything, says."""
        try:
            word, things = read_line(line)
        except NoLine:
            return "no line"
        return answer_to_all(self.world, word, things)
