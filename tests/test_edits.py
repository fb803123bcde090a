"""From a text to a change: points 13 and 14; from told lines to others: point 15; and point 1."""

import copy
import unittest

from patchweave.changes import check
from patchweave.edits import change_to, steps
from patchweave.errors import BadChange, Twice
from patchweave.weave import Weave
from weaving import Case, Mixer, another_order, lines_of, model, state, web, with_grounds, woven

A = lines_of("a", 3)


def due(weave, name, lines):
    """The change that point 13 asks for, word by word."""
    told, row, text = weave.told(), weave.row(), weave.text()
    begin = max(n for n in range(min(len(text), len(lines)) + 1) if text[:n] == lines[:n])
    rest, other = text[begin:], lines[begin:]
    end = max(n for n in range(min(len(rest), len(other)) + 1) if rest[len(rest) - n:] == other[len(other) - n:])
    new = other[:len(other) - end]
    going = [mark for mark, _ in told[begin:len(told) - end]]
    kept = told[len(told) - end][0] if end else None
    at = row.index(kept) if end else len(row)
    mark = row[at - 1] if at > 0 else None
    marks = [mark] + [(name, number) for number in range(len(new) - 1)]
    deeds = [("add", ahead, line) for ahead, line in zip(marks, new)] + [("cut", each) for each in going]
    leans = {deed[1][0] for deed in deeds if deed[1] is not None} - {name}
    if new and end and [deed for deed in weave.change(kept[0])[2] if deed[0] == "add"][kept[1]][1] == mark:
        leans.add(kept[0])
    return (name, sorted(leans), deeds)


class EditCase(Case):
    def edit_is(self, weave, name, lines, change):
        before, handed = state(weave), list(lines)
        told = change_to(weave, name, handed)
        self.assertEqual(told, change)
        self.assertEqual([type(told), type(told[1]), type(told[2])], [tuple, list, list])
        self.assertEqual({type(deed) for deed in told[2]} - {tuple}, set())
        self.assertEqual(handed, lines)
        self.assertEqual(state(weave), before)
        self.assertIsNone(check(told))
        self.assertEqual(told, due(weave, name, lines))
        self.leads_to(weave, told, lines)
        self.assertEqual(state(weave), before)

    def leads_to(self, weave, change, lines):
        """When the change has come the text is the lines, and all other lines keep marks and places."""
        there = woven(*[weave.change(name) for name in sorted(weave.names(), key=weave.height)])
        going = [deed[1] for deed in change[2] if deed[0] == "cut"]
        there.add(change)
        self.assertEqual(there.text(), lines)
        self.assertEqual([mark for mark in there.row() if mark[0] != change[0]], weave.row())
        self.assertEqual([pair for pair in there.told() if pair[0][0] != change[0]],
                         [pair for pair in weave.told() if pair[0] not in going])


class Interface(Case):
    def test_functions_are_defined_in_their_file(self):
        self.assertEqual(change_to.__module__, "patchweave.edits")
        self.assertEqual(steps.__module__, "patchweave.edits")


class NewLines(EditCase):
    def test_of_an_empty_weave(self):
        self.edit_is(Weave(), "n", ["x", "y", "z"],
                     ("n", [], [("add", None, "x"), ("add", ("n", 0), "y"), ("add", ("n", 1), "z")]))

    def test_at_the_top(self):
        # a's first line has None too, so the new lines lean on a to come ahead of it.
        self.edit_is(woven(A), "n", ["x", "y", "a 0", "a 1", "a 2"],
                     ("n", ["a"], [("add", None, "x"), ("add", ("n", 0), "y")]))

    def test_in_the_middle(self):
        self.edit_is(woven(A), "n", ["a 0", "a 1", "x", "a 2"], ("n", ["a"], [("add", ("a", 1), "x")]))

    def test_at_the_end(self):
        self.edit_is(woven(A), "n", ["a 0", "a 1", "a 2", "x", "y"],
                     ("n", ["a"], [("add", ("a", 2), "x"), ("add", ("n", 0), "y")]))

    def test_ahead_of_lines_of_another_change(self):
        weave = woven(lines_of("b", 1), ("a", ["b"], [("add", ("b", 0), "a 0")]))
        self.edit_is(weave, "n", ["b 0", "x", "a 0"], ("n", ["a", "b"], [("add", ("b", 0), "x")]))
        self.edit_is(weave, "n", ["b 0", "a 0", "x"], ("n", ["a"], [("add", ("a", 0), "x")]))


class LinesThatGo(EditCase):
    def test_at_the_top_in_the_middle_and_at_the_end(self):
        self.edit_is(woven(A), "n", ["a 1", "a 2"], ("n", ["a"], [("cut", ("a", 0))]))
        self.edit_is(woven(A), "n", ["a 0", "a 2"], ("n", ["a"], [("cut", ("a", 1))]))
        self.edit_is(woven(A), "n", ["a 0", "a 1"], ("n", ["a"], [("cut", ("a", 2))]))
        self.edit_is(woven(A), "n", ["a 2"], ("n", ["a"], [("cut", ("a", 0)), ("cut", ("a", 1))]))

    def test_all(self):
        self.edit_is(woven(A), "n", [], ("n", ["a"], [("cut", ("a", 0)), ("cut", ("a", 1)), ("cut", ("a", 2))]))

    def test_only_the_changes_of_the_cuts_are_leaned_on(self):
        # The line ahead is b's and the kept one behind is c's, but no add tells them.
        weave = woven(lines_of("b", 1), ("a", ["b"], [("add", ("b", 0), "a 0")]),
                      ("c", ["a"], [("add", ("a", 0), "c 0")]))
        self.edit_is(weave, "n", ["b 0", "c 0"], ("n", ["a"], [("cut", ("a", 0))]))
        # Where the kept line stands behind None, too.
        weave = woven(lines_of("m", 1), ("a", ["m"], [("add", None, "a 0")]), ("b", ["a"], [("cut", ("a", 0))]))
        weave.add(("c", ["b"], [("add", None, "c 0")]))
        self.edit_is(weave, "n", ["m 0"], ("n", ["c"], [("cut", ("c", 0))]))


class Both(EditCase):
    def test_at_the_top_in_the_middle_and_at_the_end(self):
        self.edit_is(woven(A), "n", ["x", "a 1", "a 2"], ("n", ["a"], [("add", ("a", 0), "x"), ("cut", ("a", 0))]))
        self.edit_is(woven(A), "n", ["a 0", "x", "y", "a 2"],
                     ("n", ["a"], [("add", ("a", 1), "x"), ("add", ("n", 0), "y"), ("cut", ("a", 1))]))
        self.edit_is(woven(A), "n", ["a 0", "x"],
                     ("n", ["a"], [("add", ("a", 2), "x"), ("cut", ("a", 1)), ("cut", ("a", 2))]))

    def test_all_lines_new(self):
        self.edit_is(woven(A), "n", ["x", "y"],
                     ("n", ["a"], [("add", ("a", 2), "x"), ("add", ("n", 0), "y"),
                                   ("cut", ("a", 0)), ("cut", ("a", 1)), ("cut", ("a", 2))]))

    def test_cuts_of_several_changes(self):
        weave = woven(lines_of("9", 2), ("10", ["9"], [("add", ("9", 0), "10 0")]),
                      ("a", ["10"], [("add", ("10", 0), "a 0")]))
        self.assertEqual(weave.text(), ["9 0", "10 0", "a 0", "9 1"])
        self.edit_is(weave, "n", ["x"],
                     ("n", ["10", "9", "a"], [("add", ("9", 1), "x"), ("cut", ("9", 0)), ("cut", ("10", 0)),
                                              ("cut", ("a", 0)), ("cut", ("9", 1))]))

    def test_words_of_one_line_differ(self):
        # No set is due: the line goes and a new one comes.
        self.edit_is(woven(A), "n", ["a 0", "a 1 ", "a 2"],
                     ("n", ["a"], [("add", ("a", 1), "a 1 "), ("cut", ("a", 1))]))

    def test_words_that_a_set_gave(self):
        weave = woven(A, ("b", ["a"], [("set", ("a", 1), "b")]))
        self.edit_is(weave, "n", ["a 0", "b", "x", "a 2"], ("n", ["a"], [("add", ("a", 1), "x")]))
        self.edit_is(weave, "n", ["a 0", "a 1", "a 2"], ("n", ["a"], [("add", ("a", 1), "a 1"), ("cut", ("a", 1))]))


class NothingDiffers(EditCase):
    def test_no_deeds_and_no_leans(self):
        self.edit_is(woven(A), "n", ["a 0", "a 1", "a 2"], ("n", [], []))
        self.edit_is(Weave(), "n", [], ("n", [], []))
        self.edit_is(woven(A, ("b", ["a"], [("cut", ("a", number)) for number in range(3)])), "n", [], ("n", [], []))


class SameWords(EditCase):
    def words(self, *words):
        marks = [None] + [("a", number) for number in range(len(words))]
        return woven(("a", [], [("add", mark, word) for mark, word in zip(marks, words)]))

    def test_one_more_of_the_same(self):
        # The beginning is taken first: both old lines are kept there.
        self.edit_is(self.words("x", "x"), "n", ["x", "x", "x"], ("n", ["a"], [("add", ("a", 1), "x")]))
        self.edit_is(self.words("x"), "n", ["x", "x"], ("n", ["a"], [("add", ("a", 0), "x")]))

    def test_one_less_of_the_same(self):
        self.edit_is(self.words("x", "x", "x"), "n", ["x", "x"], ("n", ["a"], [("cut", ("a", 2))]))
        self.edit_is(self.words("x", "x"), "n", ["x"], ("n", ["a"], [("cut", ("a", 1))]))

    def test_beginning_and_end_do_not_overlap(self):
        self.edit_is(self.words("x", "y", "x"), "n", ["x", "y", "x", "y", "x"],
                     ("n", ["a"], [("add", ("a", 2), "y"), ("add", ("n", 0), "x")]))
        self.edit_is(self.words("x", "y", "x", "y", "x"), "n", ["x", "y", "x"],
                     ("n", ["a"], [("cut", ("a", 3)), ("cut", ("a", 4))]))
        self.edit_is(self.words("x", "y", "y", "z"), "n", ["x", "y", "z"], ("n", ["a"], [("cut", ("a", 2))]))
        self.edit_is(self.words("x", "y", "z"), "n", ["x", "y", "y", "z"], ("n", ["a"], [("add", ("a", 1), "y")]))

    def test_the_same_words_at_another_place(self):
        self.edit_is(self.words("x", "y"), "n", ["y", "x"],
                     ("n", ["a"], [("add", ("a", 1), "y"), ("add", ("n", 0), "x"),
                                   ("cut", ("a", 0)), ("cut", ("a", 1))]))


class GoneLines(EditCase):
    def test_ahead_of_the_kept_end(self):
        weave = woven(A, ("b", ["a"], [("cut", ("a", 1))]))
        # The mark ahead of a's line 2 is that of the gone one.
        self.edit_is(weave, "n", ["a 0", "x", "a 2"], ("n", ["a"], [("add", ("a", 1), "x")]))
        self.edit_is(weave, "n", ["x", "a 2"], ("n", ["a"], [("add", ("a", 1), "x"), ("cut", ("a", 0))]))

    def test_gone_lines_of_another_change_ahead_of_the_kept_end(self):
        weave = woven(A, ("b", ["a"], [("add", ("a", 1), "b 0")]), ("c", ["b"], [("cut", ("b", 0))]))
        self.edit_is(weave, "n", ["a 0", "a 1", "x", "a 2"], ("n", ["b"], [("add", ("b", 0), "x")]))
        self.edit_is(weave, "n", ["a 0", "x", "a 2"], ("n", ["a", "b"], [("add", ("b", 0), "x"), ("cut", ("a", 1))]))

    def test_at_the_top(self):
        weave = woven(A, ("b", ["a"], [("cut", ("a", 0))]))
        self.edit_is(weave, "n", ["x", "a 1", "a 2"], ("n", ["a"], [("add", ("a", 0), "x")]))

    def test_at_the_end(self):
        weave = woven(A, ("b", ["a"], [("add", ("a", 2), "b 0"), ("cut", ("b", 0))]))
        self.edit_is(weave, "n", ["a 0", "a 1", "a 2", "x"], ("n", ["b"], [("add", ("b", 0), "x")]))
        self.edit_is(weave, "n", ["a 0", "x"],
                     ("n", ["a", "b"], [("add", ("b", 0), "x"), ("cut", ("a", 1)), ("cut", ("a", 2))]))

    def test_an_empty_text(self):
        weave = woven(A, ("b", ["a"], [("cut", ("a", number)) for number in range(3)]))
        self.edit_is(weave, "n", ["x", "y"], ("n", ["a"], [("add", ("a", 2), "x"), ("add", ("n", 0), "y")]))

    def test_cuts_pass_gone_lines_over(self):
        weave = woven(A, ("b", ["a"], [("cut", ("a", 1))]))
        self.edit_is(weave, "n", [], ("n", ["a"], [("cut", ("a", 0)), ("cut", ("a", 2))]))


class LeansOnTheEnd(EditCase):
    def test_both_at_the_top_whatever_the_name(self):
        # Without the lean a greater name would be done ahead, and its line would stand behind.
        for name in ["a", "n", "zz", "0"]:
            self.edit_is(woven(lines_of("m", 2)), name, ["x", "m 0", "m 1"], (name, ["m"], [("add", None, "x")]))

    def test_both_at_the_top_of_several(self):
        weave = woven(lines_of("m", 1), lines_of("b", 1), ("c", ["b"], [("add", None, "c 0")]))
        self.assertEqual(weave.text(), ["c 0", "b 0", "m 0"])
        for name in ["a", "zz"]:
            self.edit_is(weave, name, ["x", "c 0", "b 0", "m 0"], (name, ["c"], [("add", None, "x")]))

    def test_behind_the_same_line(self):
        weave = woven(A, ("m", ["a"], [("add", ("a", 0), "m 0")]))
        for name in ["b", "zz"]:
            self.edit_is(weave, name, ["a 0", "x", "m 0", "a 1", "a 2"], (name, ["a", "m"], [("add", ("a", 0), "x")]))

    def test_behind_the_same_line_at_a_greater_height(self):
        weave = woven(A, ("l", ["a"], []), ("m", ["l"], []), ("b", ["a", "m"], [("add", ("a", 0), "b 0")]))
        for name in ["c", "zz", "0"]:
            self.edit_is(weave, name, ["a 0", "x", "b 0", "a 1", "a 2"],
                         (name, ["a", "b"], [("add", ("a", 0), "x")]))

    def test_with_cuts_between(self):
        weave = woven(A, ("m", ["a"], [("add", ("a", 0), "m 0")]), ("o", ["m"], [("cut", ("m", 0))]))
        self.edit_is(weave, "n", ["x", "a 1", "a 2"], ("n", ["a", "m"], [("add", ("m", 0), "x"), ("cut", ("a", 0))]))
        weave = woven(A, ("m", ["a"], [("add", ("a", 0), "m 0")]))
        self.edit_is(weave, "zz", ["x", "m 0", "a 1", "a 2"],
                     ("zz", ["a", "m"], [("add", ("a", 0), "x"), ("cut", ("a", 0))]))

    def test_another_mark_is_not_leaned_on(self):
        # The line behind m's is a's line 1, which a put behind its line 0.
        weave = woven(A, ("m", ["a"], [("add", ("a", 0), "m 0")]))
        self.edit_is(weave, "n", ["a 0", "m 0", "x", "a 1", "a 2"], ("n", ["m"], [("add", ("m", 0), "x")]))
        # a's line stands behind None, the new one behind b's.
        weave = woven(lines_of("a", 1), ("b", ["a"], [("add", None, "b 0")]))
        self.edit_is(weave, "n", ["b 0", "x", "a 0"], ("n", ["b"], [("add", ("b", 0), "x")]))

    def test_a_mark_that_only_looks_alike(self):
        # The kept line stands behind a's line 0, the new one behind b's line 0.
        weave = woven(A, ("b", ["a"], [("add", ("a", 0), "b 0")]))
        self.edit_is(weave, "n", ["a 0", "b 0", "x", "a 1", "a 2"], ("n", ["b"], [("add", ("b", 0), "x")]))

    def test_the_add_is_counted_among_adds_alone(self):
        weave = woven(A, ("b", ["a"], [("cut", ("a", 2)), ("add", ("a", 1), "b 0"), ("set", ("b", 0), "b"),
                                       ("add", None, "b 1"), ("cut", ("a", 1)), ("add", ("a", 0), "b 2")]))
        self.assertEqual(weave.text(), ["b 1", "a 0", "b 2", "b"])
        self.edit_is(weave, "n", ["x", "b 1", "a 0", "b 2", "b"], ("n", ["b"], [("add", None, "x")]))
        self.edit_is(weave, "zz", ["b 1", "a 0", "x", "b 2", "b"], ("zz", ["a", "b"], [("add", ("a", 0), "x")]))
        self.edit_is(weave, "zz", ["b 1", "a 0", "b 2", "x", "b"], ("zz", ["a", "b"], [("add", ("a", 1), "x")]))
        self.edit_is(weave, "zz", ["b 1", "x", "a 0", "b 2", "b"], ("zz", ["b"], [("add", ("b", 1), "x")]))


class Refused(EditCase):
    def edit_refuses(self, error, weave, name, lines):
        before = state(weave)
        self.refuses(error, change_to, weave, name, lines)
        self.assertEqual(state(weave), before)

    def test_twenty_deeds_and_twenty_one(self):
        many = [f"x{n}" for n in range(25)]
        for new in [20, 21, 22]:
            weave = woven(A)
            if new == 20:
                self.assertEqual(len(change_to(weave, "n", weave.text() + many[:new])[2]), 20)
                self.leads_to(weave, change_to(weave, "n", weave.text() + many[:new]), weave.text() + many[:new])
            else:
                self.edit_refuses(BadChange, weave, "n", weave.text() + many[:new])
                self.edit_refuses(BadChange, Weave(), "n", many[:new])
        self.assertEqual(len(change_to(Weave(), "n", many[:20])[2]), 20)

    def test_twenty_cuts_and_twenty_one(self):
        weave = woven(lines_of("a", 20))
        change = change_to(weave, "n", [])
        self.assertEqual(change, ("n", ["a"], [("cut", ("a", number)) for number in range(20)]))
        weave.add(("b", ["a"], [("add", ("a", 19), "b 0")]))
        self.edit_refuses(BadChange, weave, "n", [])

    def test_adds_and_cuts_together(self):
        weave = woven(lines_of("a", 12))
        many = [f"x{n}" for n in range(9)]
        self.leads_to(weave, change_to(weave, "n", many[:8]), many[:8])
        self.edit_refuses(BadChange, weave, "n", many)

    def test_kept_lines_do_not_count(self):
        weave = woven(*[lines_of(f"b{n}", 20) for n in range(5)])
        lines = weave.text()
        lines.insert(50, "new")
        self.leads_to(weave, change_to(weave, "n", lines), lines)

    def test_no_name(self):
        for name in ["", "N", "n" * 13, "a b", "a-b", " a", "a\n", "\u00e9"]:
            with self.subTest(name=name):
                self.edit_refuses(BadChange, woven(A), name, ["x"])
                self.edit_refuses(BadChange, woven(A), name, ["a 0", "a 1", "a 2"])
                self.edit_refuses(BadChange, Weave(), name, [])
        self.edit_is(woven(A), "n" * 12, ["a 0", "a 1"], ("n" * 12, ["a"], [("cut", ("a", 2))]))

    def test_no_line(self):
        for line in ["\n", "x\t", "x" * 201, "\u00e9", "a\nb", "\x7f"]:
            for at in range(4):
                lines = ["a 0", "a 1", "a 2"]
                lines.insert(at, line)
                with self.subTest(lines=lines):
                    self.edit_refuses(BadChange, woven(A), "n", lines)
            self.edit_refuses(BadChange, Weave(), "n", [line])
        self.edit_is(woven(A), "n", ["a 0", "a 1", "a 2", "x" * 200], ("n", ["a"], [("add", ("a", 2), "x" * 200)]))

    def test_a_name_that_is_there(self):
        weave = woven(A, ("b", ["a"], []))
        for name in ["a", "b"]:
            for lines in [[], ["x"], ["a 0", "a 1", "a 2"], ["a 0", "a 1", "a 2", "x"]]:
                with self.subTest(name=name, lines=lines):
                    self.edit_refuses(Twice, weave, name, lines)
        weave.take("b")
        self.edit_is(weave, "b", ["a 0", "a 1"], ("b", ["a"], [("cut", ("a", 2))]))

    def test_bad_change_comes_ahead_of_twice(self):
        weave = woven(A)
        self.edit_refuses(BadChange, weave, "a", ["a 0", "\n"])
        self.edit_refuses(BadChange, weave, "a", ["x" * 201])
        self.edit_refuses(BadChange, weave, "a", ["x"] * 21)
        self.edit_refuses(Twice, weave, "a", ["x"] * 17)
        self.edit_refuses(BadChange, weave, "a", ["x"] * 18)


class Webs(EditCase):
    def test_webs_are_led_to_other_lines(self):
        mixer = Mixer(12)
        for seed in range(30):
            weave = woven(*web(seed, 24))
            for name in ["0a", "m", "zzz"]:
                lines = weave.text()
                at = mixer.below(len(lines) + 1)
                many = mixer.below(5)
                lines[at:at + many] = [mixer.one(["x", "y", "new", ""]) for _ in range(mixer.below(5))]
                before = state(weave)
                change = change_to(weave, name, lines)
                self.assertEqual(change, due(weave, name, lines))
                self.leads_to(weave, change, lines)
                self.assertEqual(state(weave), before)
                # Further edits begin where this one led to.
                weave.add(change)

    def test_each_place_of_a_web(self):
        for seed in range(50, 54):
            weave = woven(*web(seed, 16))
            text = weave.text()
            for at in range(len(text) + 1):
                for name in ["0", "zzz"]:
                    if name not in weave.names():
                        for lines in [text[:at] + ["new"] + text[at:], text[:at] + text[at + 1:],
                                      text[:at] + ["new", "more"] + text[at + 1:]]:
                            change = change_to(weave, name, lines)
                            self.assertEqual(change, due(weave, name, lines))
                            self.leads_to(weave, change, lines)

    def test_a_change_that_was_told_is_the_askers_own(self):
        weave = woven(A)
        change = change_to(weave, "n", ["x"])
        before = copy.deepcopy(change)
        weave.take("a")
        self.assertEqual(change, before)
        weave.add(A)
        weave.add(change)
        change[1].clear()
        change[2].clear()
        self.assertEqual(state(weave), model([A, before]))


def walked(one, done):
    """What comes of doing the steps, one by one, on the words of a list."""
    words = [line for _, line in one]
    for step in done:
        if step[0] == "out":
            del words[step[1]]
        elif step[0] == "put":
            words.insert(step[1], step[2])
        else:
            words[step[1]] = step[2]
    return words


class Steps(Case):
    def steps_are(self, one, other, due_steps):
        before = copy.deepcopy((one, other))
        told = steps(one, other)
        self.assertEqual(told, due_steps)
        self.assertIs(type(told), list)
        self.assertEqual({type(step) for step in told} - {tuple}, set())
        self.assertEqual((one, other), before)
        self.assertEqual(walked(one, told), [line for _, line in other])

    def lines(self, *pairs):
        return [((name, number), words) for name, number, words in pairs]

    def test_empty_lists(self):
        some = self.lines(("a", 0, "x"), ("a", 1, "y"))
        self.steps_are([], [], [])
        self.steps_are([], some, [("put", 0, "x"), ("put", 1, "y")])
        self.steps_are(some, [], [("out", 1), ("out", 0)])

    def test_the_same_lines(self):
        some = self.lines(("a", 0, "x"), ("b", 0, "x"), ("a", 1, ""))
        self.steps_are(some, some, [])
        self.steps_are(some, copy.deepcopy(some), [])

    def test_outs_from_the_last_place_on(self):
        some = self.lines(("a", 0, "x"), ("a", 1, "y"), ("a", 2, "z"), ("a", 3, "v"), ("a", 4, "w"))
        self.steps_are(some, [some[1], some[3]], [("out", 4), ("out", 2), ("out", 0)])
        self.steps_are(some, some[:4], [("out", 4)])
        self.steps_are(some, some[1:], [("out", 0)])

    def test_puts_by_the_places_of_the_other_list(self):
        some = self.lines(("a", 0, "x"), ("a", 1, "y"), ("a", 2, "z"), ("a", 3, "v"), ("a", 4, "w"))
        self.steps_are([some[1], some[3]], some, [("put", 0, "x"), ("put", 2, "z"), ("put", 4, "w")])

    def test_other_words(self):
        some = self.lines(("a", 0, "x"), ("a", 1, "y"), ("a", 2, "z"))
        other = self.lines(("a", 0, "x"), ("a", 1, "v"), ("a", 2, ""))
        self.steps_are(some, other, [("say", 1, "v"), ("say", 2, "")])
        self.steps_are(other, some, [("say", 1, "y"), ("say", 2, "z")])

    def test_puts_and_says_in_one_row(self):
        one = self.lines(("a", 0, "x"), ("a", 1, "y"), ("a", 2, "z"), ("a", 3, "v"))
        other = self.lines(("b", 0, "new"), ("a", 0, "x2"), ("b", 1, "more"), ("a", 2, "z"), ("a", 3, "v2"),
                           ("b", 2, "end"))
        self.steps_are(one, other, [("out", 1), ("put", 0, "new"), ("say", 1, "x2"), ("put", 2, "more"),
                                    ("say", 4, "v2"), ("put", 5, "end")])

    def test_all_others(self):
        self.steps_are(self.lines(("a", 0, "x"), ("a", 1, "y")), self.lines(("b", 0, "x"), ("b", 1, "y")),
                       [("out", 1), ("out", 0), ("put", 0, "x"), ("put", 1, "y")])

    def test_marks_are_asked_and_not_words(self):
        # The same words under another mark are another line; name and number count.
        self.steps_are(self.lines(("a", 0, "x")), self.lines(("a", 1, "x")), [("out", 0), ("put", 0, "x")])
        self.steps_are(self.lines(("a", 0, "x")), self.lines(("b", 0, "x")), [("out", 0), ("put", 0, "x")])
        self.steps_are(self.lines(("a", 0, "x"), ("a", 1, "x")), self.lines(("a", 1, "x")), [("out", 0)])
        self.steps_are(self.lines(("a", 0, "x"), ("a", 1, "x")), self.lines(("a", 0, "x")), [("out", 1)])

    def test_of_two_weaves(self):
        one = woven(A, ("b", ["a"], [("set", ("a", 0), "b"), ("add", ("a", 1), "b 0")]))
        other = woven(A, ("c", ["a"], [("cut", ("a", 1)), ("add", None, "c 0")]))
        self.steps_are(one.told(), other.told(), [("out", 2), ("out", 1), ("put", 0, "c 0"), ("say", 1, "a 0")])
        self.steps_are(other.told(), one.told(), [("out", 0), ("say", 0, "b"), ("put", 1, "a 1"), ("put", 2, "b 0")])

    def test_webs(self):
        mixer = Mixer(13)
        for seed in range(12):
            changes = web(seed, 40)
            for _ in range(6):
                one, other = [with_grounds(changes, [mixer.one(changes)[0] for _ in range(5)]) for _ in range(2)]
                first = woven(*another_order(one, mixer)).told()
                second = woven(*another_order(other, mixer)).told()
                words, there = dict(first), dict(second)
                outs = [("out", at) for at, (mark, _) in enumerate(first) if mark not in there]
                rest = [("say" if mark in words else "put", at, line) for at, (mark, line) in enumerate(second)
                        if mark not in words or words[mark] != line]
                self.steps_are(first, second, sorted(outs, reverse=True) + rest)

    def test_what_was_told_stays(self):
        one, other = self.lines(("a", 0, "x")), self.lines(("b", 0, "y"))
        told = steps(one, other)
        again = steps(one, other)
        told.append("z")
        one.clear()
        other.clear()
        self.assertEqual(again, [("out", 0), ("put", 0, "y")])


if __name__ == "__main__":
    unittest.main()
