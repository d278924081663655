"""A room's log led to rows of a plain net, by the tests' own hand."""


def borne(text):
    """(room, kind, sender, number) of the letter that a letter of hands with this text bears, or None."""
    if not text.startswith("!"):
        return None
    room, kind, sender, hearer, number, count, beat = text[1:].split(":")[0].split(".")
    return int(room), kind, int(sender), int(number)


def led(world, room):
    """The plain paper of a room: (rows, open)."""
    texts, rows = {}, []
    for row in world.log():
        word, inside = row[0], row[3] if row[0] == "dropped" else row[2]
        if word == "sent":
            texts[row[2:5]] = row[6]
        if word == "dropped":
            why, lost_in, kind, sender, number = row[2:]
            told = [(lost_in, kind, sender, number)]
            if kind in "luaf":
                told.append(borne(texts[lost_in, sender, number]))
            rows += [("lose",) + each[2:] for each in told if each and each[0] == room and each[1] in "luaf"]
        elif inside == room and word in ("came", "went", "sent", "heard"):
            new = {"came": "come", "went": "go", "sent": "send", "heard": "hear"}[word]
            rows.append((new,) + row[3:])
    still_open = set()
    for number, start, end, paper in world.letters():
        front, text = paper.split(":", 1)
        parts = front.split(".")
        told = [(int(parts[0]), parts[1], int(parts[2]), int(parts[4])), borne(text)]
        still_open |= {each[2:] for each in told if each and each[0] == room and each[1] in "luaf"}
    return tuple(rows), tuple(sorted(still_open))
