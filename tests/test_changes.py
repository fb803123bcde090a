"""Changes: points 1, 2, 3 and 4."""

import copy
import unittest

from patchweave.changes import check
from patchweave.errors import BadChange, NotLeaned

LETTERS = "abcdefghijklmnopqrstuvwxyz"
FIGURES = "0123456789"
# The percent sign is left out: nothing is promised of it.
LINE_SIGNS = "".join(chr(n) for n in range(32, 127) if n != 37)

NAMES = ["a", "z", "0", "9", "a1", "1a", "007", "abcdefghijkl", "zyxwvutsrqpo", "012345678901",
         LETTERS[:12], LETTERS[12:24], LETTERS[14:], FIGURES, "z" * 12, "9" * 12]
# The signs that stand next to the letters and the figures are among these.
WRONG_SIGNS = ["A", "Z", "M", " ", "_", "-", ".", "/", ":", "@", "[", "`", "{", "~", "\n", "\t", "\x00",
               "\x7f", "\u00e9", "\u00b2", "\u0660", "\u0430", "\uff41", "\u00df"]
NO_NAMES = ["", "abcdefghijklm", "0123456789012", "a" * 100, "AB", "ABCDEFGHIJKL", "  ", "\n"]
for _sign in WRONG_SIGNS:
    NO_NAMES += [_sign, _sign + "ab", "a" + _sign + "b", "ab" + _sign]
    NO_NAMES += [_sign + "a" * 11, "a" * 6 + _sign + "a" * 5, "a" * 11 + _sign]

LINES = ["", " ", "~", "  ", "~~", "a", "Words, 3 of them!", " ahead and behind ", LINE_SIGNS,
         "x" * 199, "x" * 200, " " * 200, "~" * 200, " ~" * 100]
NO_LINES = ["x" * 201, " " * 201, "~" * 201, "x" * 400]
for _sign in ["\n", "\r", "\t", "\x00", "\x1f", "\x0b", "\x7f", "\x80", "\x85", "\u00a0", "\u00e9", "\u2028",
              "\uff5e", "\U0001f600"]:
    NO_LINES += [_sign, _sign + "ab", "a" + _sign + "b", "ab" + _sign]
    NO_LINES += [_sign + "a" * 199, "a" * 100 + _sign + "a" * 99, "a" * 199 + _sign]

GOOD_DEEDS = [("add", None, "top"), ("add", ("c", 0), "own"), ("cut", ("a", 0)), ("set", ("b", 3), "words")]


class Case(unittest.TestCase):
    def lets_by(self, change):
        before = copy.deepcopy(change)
        self.assertIsNone(check(change))
        self.assertEqual(change, before)

    def refuses(self, error, change):
        before = copy.deepcopy(change)
        with self.assertRaises(error) as caught:
            check(change)
        self.assertIs(type(caught.exception), error)
        self.assertEqual(change, before)

    def refuses_at_each_place(self, error, deed):
        """The deed alone, ahead of good ones, between them and behind them."""
        for at in range(len(GOOD_DEEDS) + 1):
            deeds = GOOD_DEEDS[:at] + [deed] + GOOD_DEEDS[at:]
            self.refuses(error, ("c", ["a", "b"], deeds))
        self.refuses(error, ("c", ["a", "b"], [deed]))
        self.refuses(error, ("c", ["a", "b"], [("add", None, "")] * 19 + [deed]))


class Interface(Case):
    def test_check_is_defined_in_its_file(self):
        self.assertEqual(check.__module__, "patchweave.changes")


class Names(Case):
    def test_names(self):
        for name in NAMES:
            with self.subTest(name=name):
                self.lets_by((name, [], []))
                self.lets_by((name, [], [("add", None, "x"), ("cut", (name, 0))]))

    def test_each_sign_of_a_name(self):
        for sign in LETTERS + FIGURES:
            with self.subTest(sign=sign):
                self.lets_by((sign, [], []))
                self.lets_by(("a" + sign + "0", [], []))

    def test_no_names(self):
        for name in NO_NAMES:
            with self.subTest(name=name):
                self.refuses(BadChange, (name, [], []))
                self.refuses(BadChange, (name, ["a"], GOOD_DEEDS[:1]))

    def test_leans_are_names(self):
        for lean in NAMES:
            with self.subTest(lean=lean):
                self.lets_by(("own", [lean], [("cut", (lean, 0))]))

    def test_no_names_among_the_leans(self):
        for lean in NO_NAMES:
            with self.subTest(lean=lean):
                self.refuses(BadChange, ("own", [lean], []))
                # The leans still rise, so that nothing else is wrong.
                self.refuses(BadChange, ("own", sorted(["0", lean]), []))
                self.refuses(BadChange, ("own", sorted(["zz", lean]), []))
                self.refuses(BadChange, ("own", sorted(["0", "zz", lean]), []))


class Leans(Case):
    def test_rising_leans(self):
        for leans in [[], ["a"], ["a", "b"], ["a", "b", "d"], ["10", "9"], ["9", "a"], ["10", "9", "a"],
                      ["0", "00", "01", "1"], ["a", "aa", "ab", "b"], ["a0", "aa"], ["x", "x0"]]:
            with self.subTest(leans=leans):
                self.lets_by(("own", leans, []))

    def test_leans_that_do_not_rise(self):
        for leans in [["b", "a"], ["a", "d", "b"], ["b", "a", "d"], ["9", "10"], ["a", "9"], ["9", "a", "10"],
                      ["aa", "a"], ["aa", "a0"], ["1", "01"], ["a", "b", "d", "f", "e"]]:
            with self.subTest(leans=leans):
                self.refuses(BadChange, ("own", leans, []))

    def test_a_lean_twice(self):
        for leans in [["a", "a"], ["a", "a", "b"], ["a", "b", "b"], ["a", "b", "a"], ["a", "b", "d", "d"]]:
            with self.subTest(leans=leans):
                self.refuses(BadChange, ("own", leans, []))

    def test_the_own_name_among_the_leans(self):
        for leans in [["b"], ["a", "b"], ["b", "d"], ["a", "b", "d"]]:
            with self.subTest(leans=leans):
                self.refuses(BadChange, ("b", leans, []))
                self.refuses(BadChange, ("b", leans, [("add", None, "x"), ("cut", ("b", 0))]))

    def test_the_own_name_as_a_part_of_a_lean(self):
        self.lets_by(("b", ["ab", "b0", "bb"], []))

    def test_many_leans(self):
        self.lets_by(("own", sorted(f"n{n}" for n in range(60)), []))
        self.lets_by(("own", sorted(f"n{n}" for n in range(80)), []))


class Deeds(Case):
    def test_the_three_deeds(self):
        self.lets_by(("c", [], []))
        self.lets_by(("c", ["a", "b"], GOOD_DEEDS))
        for deed in GOOD_DEEDS:
            with self.subTest(deed=deed):
                self.lets_by(("c", ["a", "b"], [deed]))

    def test_an_add_at_a_lean_at_its_own_and_at_the_top(self):
        for mark in [("a", 0), ("a", 7), ("b", 19), ("c", 0), ("c", 3), None]:
            with self.subTest(mark=mark):
                self.lets_by(("c", ["a", "b"], [("add", None, "x"), ("add", mark, "y")]))

    def test_numbers_are_not_asked_here(self):
        for number in [-1, 0, 1, 20, 99, 10 ** 12]:
            for name in ["a", "c"]:
                with self.subTest(number=number, name=name):
                    mark = (name, number)
                    self.lets_by(("c", ["a"], [("add", mark, ""), ("cut", mark), ("set", mark, "")]))

    def test_leans_need_no_deed(self):
        self.lets_by(("c", ["a", "b"], []))
        self.lets_by(("c", ["a", "b"], [("add", None, "x")]))

    def test_lines(self):
        for line in LINES:
            with self.subTest(line=line):
                self.lets_by(("c", [], [("add", None, line)]))
                self.lets_by(("c", ["a"], [("add", ("a", 0), line)]))
                self.lets_by(("c", ["a"], [("cut", ("a", 0)), ("set", ("a", 0), line)]))

    def test_no_lines(self):
        for line in NO_LINES:
            with self.subTest(line=line):
                self.refuses_at_each_place(BadChange, ("add", None, line))
                self.refuses_at_each_place(BadChange, ("add", ("a", 0), line))
                self.refuses_at_each_place(BadChange, ("set", ("a", 0), line))

    def test_twenty_deeds_and_more(self):
        for deed in GOOD_DEEDS:
            with self.subTest(deed=deed):
                self.lets_by(("c", ["a", "b"], [deed] * 19))
                self.lets_by(("c", ["a", "b"], [deed] * 20))
                self.refuses(BadChange, ("c", ["a", "b"], [deed] * 21))
                self.refuses(BadChange, ("c", ["a", "b"], [deed] * 40))

    def test_another_word(self):
        for word in ["", "ADD", "Add", "add ", " add", "ad", "adds", "move", "out", "put", "say", "cuts", "sets",
                     "cut set", "d", "\n"]:
            with self.subTest(word=word):
                self.refuses_at_each_place(BadChange, (word, ("a", 0), "x"))
                self.refuses_at_each_place(BadChange, (word, ("a", 0)))
                self.refuses_at_each_place(BadChange, (word, None, "x"))

    def test_a_cut_and_a_set_of_none(self):
        self.refuses_at_each_place(BadChange, ("cut", None))
        self.refuses_at_each_place(BadChange, ("set", None, "x"))


class Marks(Case):
    def test_a_mark_without_its_lean(self):
        for name in ["d", "aa", "ab", "10", "", "A"]:
            for deed in [("add", (name, 0), "x"), ("cut", (name, 0)), ("set", (name, 0), "x")]:
                with self.subTest(deed=deed):
                    self.refuses_at_each_place(NotLeaned, deed)
                    self.refuses(NotLeaned, ("c", [], [deed]))

    def test_a_mark_of_a_lean_that_is_only_passed_on(self):
        # What b leans on is not asked: a alone stands among the leans or not.
        self.refuses(NotLeaned, ("c", ["b"], [("cut", ("a", 0))]))

    def test_bad_change_comes_first(self):
        away = ("cut", ("d", 0))
        for bad in [("move", ("a", 0)), ("cut", None), ("set", None, "x"), ("add", None, "\n"),
                    ("set", ("a", 0), "x" * 201)]:
            with self.subTest(bad=bad):
                self.refuses(BadChange, ("c", ["a"], [away, bad]))
                self.refuses(BadChange, ("c", ["a"], [bad, away]))
        for deed in [("add", ("d", 0), "\n"), ("set", ("d", 0), "\n"), ("move", ("d", 0), "x")]:
            with self.subTest(deed=deed):
                self.refuses(BadChange, ("c", ["a"], [deed]))
        self.refuses(BadChange, ("C", ["a"], [away]))
        self.refuses(BadChange, ("c", ["A"], [away]))
        self.refuses(BadChange, ("c", ["a", "A"], [away]))
        self.refuses(BadChange, ("c", ["b", "a"], [away]))
        self.refuses(BadChange, ("c", ["a", "a"], [away]))
        self.refuses(BadChange, ("c", ["a", "c"], [away]))
        self.refuses(BadChange, ("c", ["a"], [away] * 21))
        self.refuses(BadChange, ("c", ["a"], [("add", None, "x")] * 20 + [away]))


if __name__ == "__main__":
    unittest.main()
