"""Deeds as lines that are said at a desk."""


def said_rows(rows):
    return ",".join(".".join(map(str, row)) for row in rows) or "-"


def said_thing(thing):
    if thing is None:
        return "none"
    if isinstance(thing, tuple):
        return said_rows(thing)
    return str(thing)


def said(word, things):
    """The line of a deed, or None where it can't be said."""
    if word == "send":
        text = things[-1]
        if "_" in text:
            return None
        words = [said_thing(thing) for thing in things[:-1]] + ["=" + text.replace(" ", "_")]
    else:
        words = [said_thing(thing) for thing in things]
    return " ".join([word] + words)
