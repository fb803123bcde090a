"""The form of a change, looked at without a weave."""

from patchweave.errors import BadChange, NotLeaned

NAME_SIGNS = "abcdefghijklmnopqrstuvwxyz0123456789"
LONGEST_NAME = 12
LONGEST_LINE = 200
MOST_DEEDS = 20
WORDS = ("add", "cut", "set")


def is_name(text):
    """Tell whether a text is a name."""
    if text == "" or len(text) > LONGEST_NAME:
        return False
    return all([sign in NAME_SIGNS for sign in text])


def is_line(text):
    """Tell whether a text is a line."""
    if len(text) > LONGEST_LINE:
        return False
    return all([" " <= sign <= "~" for sign in text])


def check(change):
    """Refuse a change with BadChange, or else with NotLeaned, or tell None."""
    name, leans, deeds = change
    check_names(name, leans)
    check_deeds(deeds)
    # NotLeaned is told only where nothing of BadChange is so in the whole
    # change, so the marks wait until every deed has been looked at.
    check_marks(name, leans, deeds)


def check_names(name, leans):
    """Refuse what is no name, leans that do not rise, and a change that leans on itself."""
    for text in [name, *leans]:
        if not is_name(text):
            raise BadChange(f"{text!r} is no name")
    for low, high in zip(leans, leans[1:]):
        if low >= high:
            raise BadChange(f"the leans do not rise from {low} to {high}")
    if name in leans:
        raise BadChange(f"{name} leans on itself")


def check_deeds(deeds):
    """Refuse too many deeds, and each deed that is none."""
    if len(deeds) > MOST_DEEDS:
        raise BadChange(f"{len(deeds)} deeds are more than {MOST_DEEDS}")
    for deed in deeds:
        check_deed(deed)


def check_deed(deed):
    """Refuse another word, a cut or a set of None, and a line that is none."""
    # Nothing is known of the other items of a deed with another word, so the
    # word comes first.
    word = deed[0]
    if word not in WORDS:
        raise BadChange(f"no deed has the word {word!r}")
    if word != "add" and deed[1] is None:
        raise BadChange(f"a {word} needs a mark")
    if word != "cut" and not is_line(deed[2]):
        raise BadChange(f"{deed[2]!r} is no line")


def check_marks(name, leans, deeds):
    """Refuse a mark whose name is neither the change's own nor one of its leans."""
    for deed in deeds:
        mark = deed[1]
        if mark is not None and mark[0] != name and mark[0] not in leans:
            raise NotLeaned(f"{name} does not lean on {mark[0]!r}")


def adds(change):
    """The deeds that add a line, in order: the first one brings the change's line 0."""
    return [deed for deed in change[2] if deed[0] == "add"]
