"""The weave: point 5, what is refused and what comes, and point 1, whose the lists are."""

import copy
import itertools
import unittest

from patchweave.errors import BadChange, Missing, NoLine, NotLeaned, Twice
from patchweave.weave import Weave
from weaving import Case, lines_of, model, state, web, woven

METHODS = ["add", "take", "names", "change", "height", "ground", "leaning", "row", "told", "text", "questions"]

A = lines_of("a", 2)
B = ("b", ["a"], [("set", ("a", 0), "b"), ("add", ("a", 1), "b 0"), ("cut", ("a", 1))])
C = ("c", ["a"], [("set", ("a", 0), "c"), ("add", None, "c 0"), ("add", None, "c 1")])
EMPTY = ("e", ["b"], [])


def small():
    return woven(A, B, C, EMPTY)


class Interface(Case):
    def test_each_method_is_defined_in_the_class_itself(self):
        self.assertEqual(Weave.__module__, "patchweave.weave")
        for name in METHODS:
            with self.subTest(name=name):
                self.assertIn(name, vars(Weave))

    def test_a_weave_without_changes(self):
        self.assertEqual(state(Weave()), model([]))
        self.assertEqual(Weave().names(), [])
        self.assertEqual(Weave().row(), [])
        self.assertEqual(Weave().told(), [])
        self.assertEqual(Weave().text(), [])
        self.assertEqual(Weave().questions(), [])

    def test_the_kinds_of_what_is_told(self):
        weave = small()
        name, leans, deeds = weave.change("b")
        self.assertEqual([type(name), type(leans), type(deeds)], [str, list, list])
        self.assertIs(type(weave.change("b")), tuple)
        self.assertEqual([type(deed) for deed in deeds], [tuple] * 3)
        self.assertIs(type(weave.height("b")), int)
        for told in [weave.names(), weave.ground("e"), weave.leaning("a"), weave.text(), weave.take("c")]:
            self.assertIs(type(told), list)
            self.assertEqual({type(each) for each in told}, {str})
        weave = small()
        for told in [weave.row(), weave.told(), weave.questions()]:
            self.assertIs(type(told), list)
            self.assertEqual({type(each) for each in told}, {tuple})
        self.assertEqual([type(names) for _, names in weave.questions()], [list])


class Comes(Case):
    def test_add_tells_none(self):
        weave = Weave()
        self.assertIsNone(weave.add(A))
        self.assertIsNone(weave.add(B))

    def test_two_weaves_have_nothing_in_common(self):
        one, other = Weave(), Weave()
        one.add(A)
        self.assertEqual(state(other), model([]))
        other.add(C[:1] + ([], []))
        self.assertEqual(state(one), model([A]))

    def test_the_change_is_told(self):
        weave = small()
        for change in [A, B, C, EMPTY]:
            self.assertEqual(weave.change(change[0]), change)
        self.assertEqual(weave.names(), ["a", "b", "c", "e"])

    def test_names_rise_as_texts(self):
        self.assertEqual(woven(*[(name, [], []) for name in ["b", "9", "a", "10"]]).names(), ["10", "9", "a", "b"])

    def test_numbers_up_to_the_last_line(self):
        weave = woven(A)
        weave.add(("d", ["a"], [("cut", ("a", 0)), ("set", ("a", 1), "x"), ("add", ("a", 1), "y")]))
        self.assertEqual(weave.text(), ["x", "y"])

    def test_own_lines_that_earlier_deeds_add(self):
        weave = woven(("n", [], [("add", None, "x"), ("set", ("n", 0), "y"), ("add", ("n", 0), "z"),
                                 ("cut", ("n", 1)), ("add", ("n", 1), "v")]))
        self.assertEqual(weave.told(), [(("n", 0), "y"), (("n", 2), "v")])

    def test_twenty_deeds(self):
        self.assertEqual(woven(lines_of("n", 20)).text(), [f"n {n}" for n in range(20)])

    def test_sixty_changes_and_some_more(self):
        for many in [60, 75]:
            deep = [lines_of("n0", 20)]
            for at in range(1, many):
                deep.append((f"n{at}", [f"n{at - 1}"], [("add", (f"n{at - 1}", 0), f"{at}")] * 20))
            with self.subTest(many=many):
                self.assertEqual(state(woven(*deep)), model(deep))
                flat = [lines_of(f"n{at}", 20) for at in range(many)]
                self.assertEqual(state(woven(*flat)), model(flat))
                full = [(f"n{at}", sorted(f"n{n}" for n in range(at)), [("add", None, "x")]) for at in range(many)]
                self.assertEqual(state(woven(*full)), model(full))


class Refused(Case):
    def add_refuses(self, error, change, weave=None):
        weave = small() if weave is None else weave
        before = state(weave)
        self.refuses(error, weave.add, change)
        self.assertEqual(state(weave), before)
        self.assertNotIn("zz", weave.names())
        # The weave goes on as if the change had never come.
        weave.add(("zz", ["a"], [("add", ("a", 0), "after")]))
        self.assertIn("after", weave.text())

    def test_bad_change(self):
        for change in [("", [], []), ("N", [], []), ("n" * 13, [], []), ("n", ["A"], []), ("n", ["b", "a"], []),
                       ("n", ["a", "a"], []), ("n", ["a", "n"], []), ("n", ["n"], []),
                       ("n", ["a"], [("add", None, "x")] * 21), ("n", ["a"], [("move", ("a", 0))]),
                       ("n", ["a"], [("cut", None)]), ("n", ["a"], [("set", None, "x")]),
                       ("n", ["a"], [("add", None, "\n")]), ("n", ["a"], [("set", ("a", 0), "x" * 201)])]:
            with self.subTest(change=change):
                self.add_refuses(BadChange, change)

    def test_not_leaned(self):
        for deed in [("cut", ("b", 0)), ("set", ("b", 0), "x"), ("add", ("b", 0), "x"), ("cut", ("q", 0))]:
            for deeds in [[deed], [("add", None, "x"), deed], [deed, ("add", None, "x")]]:
                with self.subTest(deeds=deeds):
                    self.add_refuses(NotLeaned, ("n", ["a"], deeds))
        # On what a lean leans on one does not lean by name.
        self.add_refuses(NotLeaned, ("n", ["b"], [("cut", ("a", 0))]))

    def test_twice(self):
        for change in [A, B, C, EMPTY, copy.deepcopy(B), ("b", [], []), ("e", ["a"], []), ("a", ["c"], []),
                       lines_of("a", 3)]:
            with self.subTest(change=change):
                self.add_refuses(Twice, change)

    def test_missing(self):
        for leans in [["q"], ["0", "a"], ["a", "aa", "b"], ["a", "b", "c", "q"], ["q", "r"]]:
            with self.subTest(leans=leans):
                self.add_refuses(Missing, ("n", leans, []))
                self.add_refuses(Missing, ("n", leans, [("add", None, "x"), ("cut", (leans[-1], 0))]))
        self.refuses(Missing, Weave().add, B)

    def test_no_line_of_a_lean(self):
        # a adds two lines, b one besides a set and a cut, e none.
        for mark in [("a", -1), ("a", -2), ("a", 2), ("a", 3), ("a", 10 ** 9), ("b", -1), ("b", 1), ("b", 2),
                     ("e", 0), ("e", -1), ("e", 1)]:
            for deed in [("add", mark, "x"), ("cut", mark), ("set", mark, "x")]:
                good = [("add", None, "x"), ("set", ("a", 1), "y"), ("cut", ("n", 0))]
                for deeds in [[deed], [deed] + good, good[:2] + [deed] + good[2:], good + [deed],
                              [("add", None, "x")] * 19 + [deed]]:
                    with self.subTest(deeds=deeds):
                        self.add_refuses(NoLine, ("n", ["a", "b", "e"], deeds))

    def test_no_line_of_its_own(self):
        add = ("add", None, "x")
        for at, number in [(0, 0), (0, -1), (0, 1), (1, 1), (1, -1), (1, 2), (2, 2), (2, 3), (2, -2)]:
            mark = ("n", number)
            for deed in [("add", mark, "x"), ("cut", mark), ("set", mark, "x")]:
                with self.subTest(at=at, deed=deed):
                    self.add_refuses(NoLine, ("n", [], [add] * at + [deed]))
                    self.add_refuses(NoLine, ("n", [], [add] * at + [deed] + [add] * 4))

    def test_sets_and_cuts_of_its_own_add_no_line(self):
        self.add_refuses(NoLine, ("n", [], [("add", None, "x"), ("set", ("n", 0), "y"), ("cut", ("n", 1))]))
        self.add_refuses(NoLine, ("n", [], [("add", None, "x"), ("cut", ("n", 0)), ("set", ("n", 1), "z")]))

    def test_several_faults_at_once(self):
        kinds = [BadChange, NotLeaned, Twice, Missing, NoLine]
        wrong = {BadChange: ("cut", None), NotLeaned: ("cut", ("q", 0)), NoLine: ("cut", ("a", 2))}
        good = ("add", None, "x")
        for many in range(1, 6):
            for faults in itertools.combinations(kinds, many):
                name = "c" if Twice in faults else "n"
                leans = ["a", "b"] + (["x"] if Missing in faults else [])
                deeds = [wrong[fault] for fault in faults if fault in wrong] + [good]
                for order in itertools.permutations(deeds):
                    with self.subTest(faults=faults, order=order):
                        self.add_refuses(faults[0], (name, leans, list(order)))

    def test_the_faults_of_names_come_first_too(self):
        self.add_refuses(BadChange, ("a", ["b", "a"], [("cut", ("q", 0))]))
        self.add_refuses(BadChange, ("c", ["c"], []))
        self.add_refuses(BadChange, ("c", ["x", "x"], [("cut", ("x", -1))]))
        self.add_refuses(BadChange, ("n", ["X"], []))
        self.add_refuses(NotLeaned, ("c", ["x"], [("cut", ("q", -1))]))
        self.add_refuses(Twice, ("c", ["x"], [("cut", ("x", -1))]))
        self.add_refuses(Twice, ("c", [], [("cut", ("c", 5))]))
        self.add_refuses(Missing, ("n", ["a", "x"], [("cut", ("a", 9)), ("cut", ("x", -1)), ("cut", ("n", 0))]))


class ComesLater(Case):
    def test_when_the_missing_change_has_come(self):
        weave = woven(A)
        late = ("n", ["a", "m"], [("cut", ("m", 0))])
        self.refuses(Missing, weave.add, late)
        middle = ("m", ["l"], [("add", None, "m 0")])
        self.refuses(Missing, weave.add, middle)
        low = lines_of("l", 1)
        for change in [low, middle, late]:
            weave.add(change)
        self.assertEqual(state(weave), model([A, low, middle, late]))

    def test_when_the_other_of_its_name_was_taken_out(self):
        weave = small()
        other = ("c", ["e"], [("add", None, "new")])
        self.refuses(Twice, weave.add, other)
        weave.take("c")
        weave.add(other)
        self.assertEqual(state(weave), model([A, B, EMPTY, other]))

    def test_when_the_line_is_there(self):
        weave = small()
        late = ("n", ["e"], [("set", ("e", 0), "x")])
        self.refuses(NoLine, weave.add, late)
        weave.take("e")
        full = ("e", ["b"], [("add", ("b", 0), "e 0")])
        weave.add(full)
        weave.add(late)
        self.assertEqual(state(weave), model([A, B, C, full, late]))

    def test_the_same_name_without_its_fault(self):
        for bad in [("n", ["a"], [("cut", None)]), ("n", ["a"], [("cut", ("q", 0))]), ("n", ["a", "x"], []),
                    ("n", ["a"], [("cut", ("a", 2))])]:
            weave = small()
            with self.assertRaises(ValueError):
                weave.add(bad)
            good = ("n", ["a"], [("cut", ("a", 1))])
            weave.add(good)
            self.assertEqual(state(weave), model([A, B, C, EMPTY, good]))


class OwnLists(Case):
    def spoil(self, told):
        """Change a list, and the lists in its items."""
        for each in told:
            for part in each if isinstance(each, tuple) else []:
                if isinstance(part, list):
                    part.append("spoiled")
                    part.reverse()
        told.append("spoiled")
        told.reverse()

    def handed_out(self, weave):
        """Lists that the weave tells, those of changes too."""
        lists = [weave.names(), weave.row(), weave.told(), weave.text(), weave.questions()]
        for name in weave.names():
            lists += [weave.ground(name), weave.leaning(name), weave.change(name)[1], weave.change(name)[2]]
        return lists

    def test_add_changes_nothing_that_is_handed_in(self):
        for change in [A, B, C, EMPTY]:
            before = copy.deepcopy(change)
            small_one = woven(*[each for each in [A, B, C] if each[0] < change[0]])
            small_one.add(change)
            small_one.take("a")
            self.assertEqual(change, before)

    def test_lists_handed_in_are_changed_afterwards(self):
        for spoiled in [lambda xs: xs.clear(), lambda xs: xs.append("z"), lambda xs: xs.reverse(),
                        lambda xs: xs.insert(0, ("cut", ("a", 0)))]:
            handed = copy.deepcopy([A, B, C, EMPTY])
            weave = Weave()
            for change in handed:
                weave.add(change)
                spoiled(change[1])
                spoiled(change[2])
            self.assertEqual(state(weave), model([A, B, C, EMPTY]))
            weave.add(("z", ["c", "e"], [("add", ("c", 1), "z")]))
            self.assertEqual(weave.take("b"), ["b", "e", "z"])
            self.assertEqual(state(weave), model([A, C]))

    def test_lists_handed_out_are_changed(self):
        weave = small()
        for at in range(len(self.handed_out(weave))):
            self.spoil(self.handed_out(weave)[at])
            self.assertEqual(state(weave), model([A, B, C, EMPTY]))
        self.spoil(weave.take("e"))
        self.assertEqual(state(weave), model([A, B, C]))
        told = weave.take("a")
        self.spoil(told)
        self.assertEqual(state(weave), model([]))
        weave.add(A)
        self.assertEqual(state(weave), model([A]))

    def test_each_list_handed_out_is_another(self):
        weave = small()
        for one, other in zip(self.handed_out(weave), self.handed_out(weave)):
            self.assertEqual(one, other)
            self.assertIsNot(one, other)
        self.assertIsNot(weave.questions()[0][1], weave.questions()[0][1])

    def test_what_was_handed_out_stays(self):
        changes = web(5, 20)
        weave = Weave()
        kept = []
        for change in changes:
            weave.add(change)
            told = self.handed_out(weave)
            kept.append((told, copy.deepcopy(told)))
        while weave.names():
            told = weave.take(weave.names()[0])
            kept.append((told, copy.deepcopy(told)))
            told = self.handed_out(weave)
            kept.append((told, copy.deepcopy(told)))
        for change in changes[:8]:
            weave.add(change)
        for told, before in kept:
            self.assertEqual(told, before)

    def test_asking_changes_nothing(self):
        weave = small()
        before = state(weave)
        for _ in range(3):
            self.assertEqual(state(weave), before)


if __name__ == "__main__":
    unittest.main()
