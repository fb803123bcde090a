"""What several test files need: the state of a weave, a plain model of the document, and mixed weaves."""

import copy
import unittest

from patchweave.weave import Weave

WORDS = ["", "x", "y", "x", " z ", "a: b", "~"]


class Case(unittest.TestCase):
    def refuses(self, error, action, *handed):
        """The action is refused with just this error, and what is handed in stays."""
        before = copy.deepcopy([thing for thing in handed if not isinstance(thing, Weave)])
        with self.assertRaises(error) as caught:
            action(*handed)
        self.assertIs(type(caught.exception), error)
        self.assertEqual([thing for thing in handed if not isinstance(thing, Weave)], before)


def woven(*changes):
    """A weave to which the changes came in this order."""
    weave = Weave()
    for change in changes:
        weave.add(change)
    return weave


def lines_of(name, many, leans=()):
    """A change that adds lines, each one behind the one ahead, from the top on."""
    marks = [None] + [(name, number) for number in range(many - 1)]
    return (name, list(leans), [("add", mark, f"{name} {number}") for number, mark in enumerate(marks[:many])])


def state(weave):
    """All that a weave tells, as it is now."""
    names = weave.names()
    told = {
        "names": names,
        "changes": [weave.change(name) for name in names],
        "heights": [weave.height(name) for name in names],
        "grounds": [weave.ground(name) for name in names],
        "leaning": [weave.leaning(name) for name in names],
        "row": weave.row(),
        "told": weave.told(),
        "text": weave.text(),
        "questions": weave.questions(),
    }
    return copy.deepcopy(told)


def model(changes):
    """All that a weave of the changes has to tell, word by word as the document has it."""
    table = {change[0]: change for change in changes}
    names = sorted(table)
    below = grounds(table)
    rows = done(in_plain_order(table))
    return {
        "names": names,
        "changes": [table[name] for name in names],
        "heights": [height(table, name) for name in names],
        "grounds": [sorted(below[name]) for name in names],
        "leaning": [sorted(other for other in names if name in below[other]) for name in names],
        "row": [mark for mark, _, _ in rows],
        "told": [(mark, words) for mark, words, gone in rows if not gone],
        "text": [words for _, words, gone in rows if not gone],
        "questions": in_question(table, below, rows),
    }


def grounds(table):
    below = {name: set(table[name][1]) for name in table}
    while True:
        further = {name: below[name].union(*[below[lean] for lean in below[name]]) for name in table}
        if further == below:
            return below
        below = further


def height(table, name):
    known = {}

    def worked_out(each):
        if each not in known:
            known[each] = max([worked_out(lean) + 1 for lean in table[each][1]], default=0)
        return known[each]

    return worked_out(name)


def in_plain_order(table):
    greater_first = sorted(table, reverse=True)
    return [table[name] for name in sorted(greater_first, key=lambda name: height(table, name))]


def done(changes):
    """The row that comes of doing the changes in this order: lists of mark, words, and whether it is gone."""
    rows = []
    for name, _, deeds in changes:
        many = 0
        for deed in deeds:
            at = [row[0] for row in rows].index(deed[1]) if deed[1] is not None else -1
            if deed[0] == "add":
                rows.insert(at + 1, [(name, many), deed[2], False])
                many += 1
            elif deed[0] == "set":
                rows[at][1] = deed[2]
            else:
                rows[at][2] = True
    return rows


def in_question(table, below, rows):
    found = []
    for mark, _, gone in rows:
        setters = [name for name in table if any(deed[:2] == ("set", mark) for deed in table[name][2])]
        left = sorted(name for name in setters if not any(name in below[other] for other in setters))
        if not gone and len(left) >= 2:
            found.append((mark, left))
    return found


class Mixer:
    """Numbers that look mixed and are the same in each run."""

    def __init__(self, seed):
        self.state = seed

    def below(self, limit):
        self.state = (self.state * 6364136223846793005 + 1442695040888963407) % 2 ** 64
        return (self.state >> 33) % limit

    def one(self, things):
        return things[self.below(len(things))]

    def mixed(self, things):
        left = list(things)
        return [left.pop(self.below(len(left))) for _ in things]


def web(seed, many):
    """Changes that lean on each other and tell each other's lines, in an order that keeps leanings."""
    mixer = Mixer(seed)
    names = mixer.mixed([str(n) for n in range(many // 2)] + ["abcdefgh"[n % 8] + str(n) for n in range(many)])
    changes, many_lines = [], {}
    for name in names[:many]:
        # Now among the last ones and now among all, so that the web is deep and wide.
        ahead = list(many_lines)[-mixer.one([3, 12, many]):]
        leans = sorted({mixer.one(ahead) for _ in range(mixer.below(4))}) if ahead else []
        deeds, own = [], 0
        for _ in range(mixer.below(7)):
            marks = [(lean, number) for lean in leans for number in range(many_lines[lean])]
            marks += [(name, number) for number in range(own)]
            word = mixer.one(["add", "add", "add", "cut", "set", "set", "set"])
            if word == "add":
                deeds.append(("add", mixer.one([None] + marks), mixer.one(WORDS)))
                own += 1
            elif marks and word == "cut":
                deeds.append(("cut", mixer.one(marks)))
            elif marks:
                # A choice of few, so that several changes set one line.
                deeds.append(("set", mixer.one(marks[:2]), mixer.one(WORDS)))
        many_lines[name] = own
        changes.append((name, leans, deeds))
    return changes


def another_order(changes, mixer):
    """The same changes in another order that keeps leanings."""
    left, ordered, there = list(changes), [], set()
    while left:
        ready = [change for change in left if there.issuperset(change[1])]
        change = mixer.one(ready)
        left.remove(change)
        ordered.append(change)
        there.add(change[0])
    return ordered


def with_grounds(changes, names):
    """The changes of these names and all on which they lean, in the order of the list."""
    below = grounds({change[0]: change for change in changes})
    wanted = set(names).union(*[below[name] for name in names])
    return [change for change in changes if change[0] in wanted]
