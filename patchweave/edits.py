"""From a text to a change, and from told lines to other told lines."""

from patchweave.changes import MOST_DEEDS, adds, is_line, is_name
from patchweave.errors import BadChange, Twice


def change_to(weave, name, lines):
    """The change by which the weave's text becomes the lines, or refused with BadChange or Twice."""
    refuse_no_words(name, lines)
    told = weave.told()
    begin, end = kept_ends(weave.text(), lines)
    new = lines[begin:len(lines) - end]
    going = [mark for mark, _ in told[begin:len(told) - end]]
    if len(new) + len(going) > MOST_DEEDS:
        raise BadChange(f"{len(new) + len(going)} deeds are more than {MOST_DEEDS}")
    if name in weave.names():
        raise Twice(f"a change {name} is there already")
    first_kept = told[len(told) - end][0] if end > 0 else None
    start = mark_ahead(weave.row(), first_kept)
    leaned = list(going)
    if new:
        leaned.extend(marks_for_adds(weave, start, first_kept))
    deeds = [*add_deeds(name, start, new), *[("cut", mark) for mark in going]]
    return (name, sorted({mark[0] for mark in leaned}), deeds)


def refuse_no_words(name, lines):
    """Refuse with BadChange what is no name, and a line that is none."""
    if not is_name(name):
        raise BadChange(f"{name!r} is no name")
    for line in lines:
        if not is_line(line):
            raise BadChange(f"{line!r} is no line")


def kept_ends(one, other):
    """How many lines the longest common beginning has, and the longest common end behind it."""
    begin = same_ahead(one, other)
    end = same_ahead(one[begin:][::-1], other[begin:][::-1])
    return begin, end


def same_ahead(one, other):
    """How many lines two lists have in common from their beginning on."""
    many = 0
    for line, other_line in zip(one, other):
        if line != other_line:
            break
        many += 1
    return many


def mark_ahead(row, kept):
    """The mark right ahead of the kept one, or the last where none is kept; None where there is none."""
    ahead = row if kept is None else row[:row.index(kept)]
    return ahead[-1] if ahead else None


def marks_for_adds(weave, start, kept):
    """The marks on whose changes new lines lean that begin behind the start, ahead of the kept line."""
    marks = []
    if start is not None:
        marks.append(start)
    # The kept line stands behind the same line, so the new lines come to
    # stand ahead of it only if they are put there later.
    if kept is not None and mark_of_add(weave, kept) == start:
        marks.append(kept)
    return marks


def mark_of_add(weave, mark):
    """The mark in the add that brought a line: the line behind which it was put, or None."""
    name, number = mark
    deed = adds(weave.change(name))[number]
    return deed[1]


def add_deeds(name, start, lines):
    """An add for each line, the first behind the start and each further one behind the one ahead."""
    deeds = []
    mark = start
    for number, line in enumerate(lines):
        deeds.append(("add", mark, line))
        mark = (name, number)
    return deeds


def steps(one, other):
    """The steps from the told lines of one weave to those of another."""
    before = {mark: words for mark, words in one}
    after = {mark: words for mark, words in other}
    outs = [("out", place) for place, (mark, _) in enumerate(one) if mark not in after]
    found = outs[::-1]
    for place, (mark, words) in enumerate(other):
        if mark not in before:
            found.append(("put", place, words))
        elif before[mark] != words:
            found.append(("say", place, words))
    return found
