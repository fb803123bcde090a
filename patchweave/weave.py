"""The weave: changes of several hands, and the one text that comes of them."""

from patchweave.changes import adds, check
from patchweave.errors import Missing, NoLine, Twice
from patchweave.orders import own_copy, plain_order
from patchweave.rows import gone_of, row_of, setters_of, words_of


class Weave:
    """Changes, no two of one name, and with each one all on which it leans."""

    def __init__(self):
        self._changes = {}
        self._heights = {}
        # For each name a dict that has the names of all on which it leans.
        # It stays right when others are taken out: what a change leans on
        # is never taken out without that change.
        self._grounds = {}

    def add(self, change):
        """Let a change come, or refuse it with BadChange, NotLeaned, Twice, Missing or NoLine."""
        check(change)
        name, leans, _ = change
        if name in self._changes:
            raise Twice(f"a change {name} is there already")
        for lean in leans:
            self._need(lean)
        self._refuse_no_line(change)
        self._changes[name] = own_copy(change)
        self._heights[name] = max([self._heights[lean] + 1 for lean in leans], default=0)
        self._grounds[name] = {below: True for lean in leans for below in [lean, *self._grounds[lean]]}

    def take(self, name):
        """Take out a change and all that lean on it, and tell their names, rising."""
        going = sorted([name, *self.leaning(name)])
        for each in going:
            del self._changes[each]
            del self._heights[each]
            del self._grounds[each]
        return going

    def names(self):
        """The names of all changes, rising."""
        return sorted(self._changes)

    def change(self, name):
        """The change of a name."""
        self._need(name)
        return own_copy(self._changes[name])

    def height(self, name):
        """0 for a change without leans, else one more than the greatest height of its leans."""
        self._need(name)
        return self._heights[name]

    def ground(self, name):
        """The names of all changes on which a change leans, rising."""
        self._need(name)
        return sorted(self._grounds[name])

    def leaning(self, name):
        """The names of all changes that lean on a change, rising."""
        self._need(name)
        return sorted([other for other in self._changes if name in self._grounds[other]])

    def row(self):
        """The marks of all lines, gone ones too, in order."""
        return row_of(self._ordered())

    def told(self):
        """Pairs of mark and words of all lines that are not gone, in order."""
        changes = self._ordered()
        words = words_of(changes)
        gone = gone_of(changes)
        return [(mark, words[mark]) for mark in row_of(changes) if mark not in gone]

    def text(self):
        """The words of all lines that are not gone, in order."""
        return [words for _, words in self.told()]

    def questions(self):
        """Pairs of mark and rising names of the unsettled changes, for each line in question."""
        setters = setters_of(self._ordered())
        found = []
        for mark, _ in self.told():
            names = self._unsettled(setters.get(mark, []))
            if len(names) > 1:
                found.append((mark, names))
        return found

    def _need(self, name):
        """Refuse with Missing where no change has the name."""
        if name not in self._changes:
            raise Missing(f"no change {name!r} is there")

    def _refuse_no_line(self, change):
        """Refuse with NoLine where a mark's number tells no line that is there for its deed."""
        name, _, deeds = change
        own = 0
        for deed in deeds:
            mark = deed[1]
            if mark is not None:
                many = own if mark[0] == name else len(adds(self._changes[mark[0]]))
                if not 0 <= mark[1] < many:
                    raise NoLine(f"{mark[0]} has no line {mark[1]} there")
            if deed[0] == "add":
                own += 1

    def _ordered(self):
        """The changes in the plain order."""
        return plain_order(list(self._changes.values()))

    def _unsettled(self, names):
        """Those of the changes, all of which set one line, on which no other of them leans, rising."""
        return sorted([name for name in names if not any([name in self._grounds[other] for other in names])])
