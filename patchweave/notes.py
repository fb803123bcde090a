"""Notes: a change written as a text, and read from it."""

from patchweave.changes import check
from patchweave.errors import BadChange, NoNote, NotLeaned

FIGURES = "0123456789"
MOST_FIGURES = 9
# What is written for the mark None.
TOP = "-"


def written(change):
    """The note of a change."""
    name, leans, deeds = change
    rows = [written_head(name, leans)]
    for deed in deeds:
        rows.append(written_deed(deed))
    return "\n".join(rows)


def written_head(name, leans):
    """The first row: the name and the leans."""
    words = ["change", name]
    if leans:
        words = [*words, "on", *leans]
    return " ".join(words)


def written_deed(deed):
    """The row of a deed."""
    word = deed[0]
    head = f"{word} {written_mark(deed[1])}"
    if word == "cut":
        return head
    return f"{head}: {deed[2]}"


def written_mark(mark):
    """The text of a mark or of None."""
    if mark is None:
        return TOP
    name, number = mark
    return f"{name} {number}"


def read(text):
    """The change of a note, or refused with NoNote."""
    rows = text.split("\n")
    name, leans = read_head(rows[0])
    change = (name, leans, [read_deed(row) for row in rows[1:]])
    try:
        check(change)
    except (BadChange, NotLeaned):
        raise NoNote("the note is not that of a change of the right form") from None
    return change


def read_head(row):
    """The name and the leans of the first row. Whether they are names is not asked here."""
    words = row.split(" ")
    if words[0] != "change":
        raise NoNote(f"{row!r} is not the first row of a note")
    if len(words) == 2:
        return words[1], []
    if len(words) < 4 or words[2] != "on":
        raise NoNote(f"{row!r} is not the first row of a note")
    return words[1], words[3:]


def read_deed(row):
    """The deed of a row. Whether its word, mark and line are those of a deed is not asked here."""
    word, _, rest = row.partition(" ")
    if word == "cut":
        return (word, read_mark(rest))
    # A mark holds no colon, so the first one parts it from the line.
    mark, colon, line = rest.partition(": ")
    if colon == "":
        raise NoNote(f"{row!r} is not the row of a deed")
    return (word, read_mark(mark), line)


def read_mark(text):
    """The mark, or None, of a text. Whether its name is one is not asked here."""
    if text == TOP:
        return None
    words = text.split(" ")
    if len(words) != 2 or not is_number(words[1]):
        raise NoNote(f"{text!r} is not a mark")
    return (words[0], int(words[1]))


def is_number(text):
    """Tell whether a text is a number as notes have it."""
    if text == "" or len(text) > MOST_FIGURES:
        return False
    if text[0] == "0" and text != "0":
        return False
    return all([sign in FIGURES for sign in text])
