"""What comes of doing changes: the row of lines, their words, the gone ones, and who sets them.

The changes that are handed in here stand in the plain order.
"""

from patchweave.changes import adds


def row_of(changes):
    """The marks of all lines, gone ones too, in the order of the row."""
    # For each mark the one that stands right behind it. None stands for the
    # top as a key, and for the end as a value.
    behind = {None: None}
    for change in changes:
        for number, deed in enumerate(adds(change)):
            mark = (change[0], number)
            behind[mark] = behind[deed[1]]
            behind[deed[1]] = mark
    row = []
    mark = behind[None]
    while mark is not None:
        row.append(mark)
        mark = behind[mark]
    return row


def words_of(changes):
    """A dict of the words of all lines, gone ones too, by their marks."""
    words = {}
    for change in changes:
        # A change sets just such own lines as earlier deeds add, so all its
        # adds may go ahead of its sets.
        for number, deed in enumerate(adds(change)):
            words[(change[0], number)] = deed[2]
        for deed in change[2]:
            if deed[0] == "set":
                words[deed[1]] = deed[2]
    return words


def gone_of(changes):
    """A dict that has the mark of each gone line."""
    gone = {}
    for change in changes:
        for deed in change[2]:
            if deed[0] == "cut":
                gone[deed[1]] = True
    return gone


def setters_of(changes):
    """A dict of lists: by the mark of each line that is set, the names of the changes that set it."""
    table = {}
    for name, _, deeds in changes:
        for deed in deeds:
            if deed[0] == "set":
                names = table.setdefault(deed[1], [])
                # A change that sets a line twice is still one change.
                if name not in names:
                    names.append(name)
    return table
