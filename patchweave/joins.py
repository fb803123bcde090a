"""Several weaves: a part of one, and two joined to one."""

from patchweave.errors import Other
from patchweave.orders import plain_order
from patchweave.weave import Weave


def part(weave, names):
    """A weave of the changes of these names and of all on which they lean, or refused with Missing."""
    wanted = {}
    for name in names:
        for each in [name, *weave.ground(name)]:
            wanted[each] = True
    return woven([weave.change(name) for name in wanted])


def joined(one, other):
    """A weave of all changes of both, or refused with Other."""
    table = {name: one.change(name) for name in one.names()}
    for name in other.names():
        change = other.change(name)
        if name in table and table[name] != change:
            raise Other(f"the two changes {name} differ")
        table[name] = change
    return woven(list(table.values()))


def woven(changes):
    """A weave of the changes, among which are all on which they lean."""
    weave = Weave()
    # In the plain order no change comes ahead of one on which it leans.
    for change in plain_order(changes):
        weave.add(change)
    return weave
