"""Lines that are said at a desk: words with one blank between, and what each word tells."""

FIGURES = "0123456789"
SMALL_LETTERS = "abcdefghijklmnopqrstuvwxyz"
# What stands for a blank in a text, for None, and for no pairs or rows.
BLANK = "_"
NOBODY = "none"
NOTHING = "-"

# What the words behind a deed's or a question's word are; of SHORTER the last one may be left out.
SHAPES = {
    "put_room": ("small", "number", "or none"),
    "close_room": ("number",),
    "enter": ("number", "number", "number"),
    "leave": ("number", "number"),
    "move": ("number", "number", "number"),
    "send": ("number", "number", "or none", "text"),
    "put_gate": ("number", "number", "number", "pairs", "pairs", "rules"),
    "close_gate": ("number",),
    "fall": ("number", "number"),
    "rise": ("number", "number"),
    "step": ("weave",),
    "where": ("number", "number", "number"),
    "ear": ("number", "number"),
    "beat": (),
    "quiet": (),
}
SHORTER = ("put_room", "step")
# What the parts of each row are, where a word tells several rows.
ROWS = {"pairs": ("number", "number"), "rules": ("small", "number", "number"), "weave": ("number", "small")}


class NoLine(ValueError):
    """What was said is no line."""


def read_number(word):
    """The number that is written in figures."""
    if word == "" or any([sign not in FIGURES for sign in word]) or (word[0] == "0" and word != "0"):
        raise NoLine("this is no number")
    return int(word)


def read_small(word):
    """The word itself, of small letters."""
    if word == "" or any([sign not in SMALL_LETTERS for sign in word]):
        raise NoLine("this is no word of small letters")
    return word


def read_text(word):
    """The text that is written behind a sign of its own."""
    if not word.startswith("="):
        raise NoLine("this is no text")
    return word[1:].replace(BLANK, " ")


def read_row(forms, word):
    """A row whose parts are of such forms."""
    parts = word.split(".")
    if len(parts) != len(forms):
        raise NoLine("this row has too few parts, or too many")
    return tuple([read_as(form, part) for form, part in zip(forms, parts)])


def read_rows(forms, word):
    """A tuple of rows whose parts are of such forms."""
    if word == NOTHING:
        return ()
    return tuple([read_row(forms, part) for part in word.split(",")])


def read_as(form, word):
    """What the word tells where such a thing is due."""
    if form == "small":
        return read_small(word)
    if form == "text":
        return read_text(word)
    if form in ROWS:
        return read_rows(ROWS[form], word)
    if form == "or none" and word == NOBODY:
        return None
    return read_number(word)


def read_line(line):
    """The word that a line begins with, and a tuple of what it tells, of anything."""
    if not isinstance(line, str):
        raise NoLine("this is no text")
    word, *rest = line.split(" ")
    if word not in SHAPES:
        raise NoLine("no deed and no question has this word")
    forms = SHAPES[word]
    if word in SHORTER and len(rest) == len(forms) - 1:
        forms = forms[:-1]
    if len(rest) != len(forms):
        raise NoLine("this line has too few words, or too many")
    return word, tuple([read_as(form, part) for form, part in zip(forms, rest)])


def said_text(text):
    """The text as a desk says it."""
    return text.replace(" ", BLANK)
