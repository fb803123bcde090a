"""Lists of changes: whether they keep leanings, and their plain order."""

from patchweave.errors import Missing, Ring, Twice


def keeps(changes):
    """Tell whether each change stands behind all its leans, and no name stands twice."""
    ahead = {}
    for change in changes:
        name = change[0]
        if name in ahead or not all_within(change[1], ahead):
            return False
        ahead[name] = True
    return True


def plain_order(changes):
    """The changes, lesser height first and of one height the greater name first."""
    table = by_name(changes)
    refuse_missing(table)
    ordered = []
    for names in layers(table):
        for name in sorted(names, reverse=True):
            ordered.append(own_copy(table[name]))
    return ordered


def by_name(changes):
    """A dict of the changes by their names, or refused with Twice."""
    table = {}
    for change in changes:
        name = change[0]
        if name in table:
            raise Twice(f"the name {name!r} stands twice")
        table[name] = change
    return table


def refuse_missing(table):
    """Refuse with Missing where a change leans on a name that none has."""
    for name, change in table.items():
        for lean in change[1]:
            if lean not in table:
                raise Missing(f"{name!r} leans on {lean!r}, which is not there")


def layers(table):
    """Lists of the names of one height, by rising heights, or refused with Ring.

    Each lean is a name in the table.
    """
    found = []
    placed = {}
    left = list(table)
    while left:
        # A name that was not ready for the layer below has a lean in that
        # very layer, so its height is greater by just one.
        names = [name for name in left if all_within(table[name][1], placed)]
        if not names:
            raise Ring(f"the leanings of {left[0]!r} lead into a ring")
        found.append(names)
        for name in names:
            placed[name] = True
        left = [name for name in left if name not in placed]
    return found


def all_within(names, table):
    """Tell whether a dict has each of the names."""
    return all([name in table for name in names])


def own_copy(change):
    """The same change with lists of its own."""
    name, leans, deeds = change
    return (name, list(leans), list(deeds))
