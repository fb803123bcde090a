"""Notes: point 16, with points 2, 3 and 4."""

import copy
import re
import unittest

from patchweave.changes import check
from patchweave.edits import change_to
from patchweave.errors import NoNote, WeaveError
from patchweave.notes import read, written
from weaving import Case, Mixer, lines_of, web, woven

NAME = "[a-z0-9]{1,12}"
MARK = f"{NAME} (0|[1-9][0-9]{{0,8}})"
LINE = "[ -~]{0,200}"
HEAD = re.compile(f"change {NAME}( on {NAME}( {NAME})*)?")
DEED = re.compile(f"(add ({MARK}|-): {LINE})|(cut {MARK})|(set {MARK}: {LINE})")

NOTES = [
    (("a", [], []), "change a"),
    (("on", ["on2"], []), "change on on on2"),
    (("on", [], []), "change on"),
    (("change", ["add", "on"], []), "change change on add on"),
    (("0", ["10", "9", "a"], []), "change 0 on 10 9 a"),
    (("abcdefghijkl", ["012345678901"], []), "change abcdefghijkl on 012345678901"),
    (("a", [], [("add", None, "x")]), "change a\nadd -: x"),
    (("a", [], [("add", None, ""), ("add", ("a", 0), "")]), "change a\nadd -: \nadd a 0: "),
    (("b", ["a"], [("cut", ("a", 0))]), "change b on a\ncut a 0"),
    (("b", ["a"], [("set", ("a", 12), "Two words")]), "change b on a\nset a 12: Two words"),
    (("b", ["a"], [("set", ("a", 0), ""), ("cut", ("b", 7)), ("add", ("a", 3), " ")]),
     "change b on a\nset a 0: \ncut b 7\nadd a 3:  "),
    (("b", ["a"], [("add", ("a", 1), " x "), ("set", ("a", 1), "  "), ("add", None, "x  ")]),
     "change b on a\nadd a 1:  x \nset a 1:   \nadd -: x  "),
    (("b", ["a"], [("add", ("a", 1), "p: q"), ("set", ("a", 1), ": "), ("add", None, ":"),
                  ("set", ("b", 0), "::: : ")]),
     "change b on a\nadd a 1: p: q\nset a 1: : \nadd -: :\nset b 0: ::: : "),
    (("b", ["a"], [("add", ("a", 1), "cut a 0"), ("set", ("a", 1), "-"), ("add", None, "add -: x")]),
     "change b on a\nadd a 1: cut a 0\nset a 1: -\nadd -: add -: x"),
    (("b", ["a"], [("cut", ("a", 999999999)), ("cut", ("a", 100000000)), ("cut", ("a", 10)), ("cut", ("b", 0))]),
     "change b on a\ncut a 999999999\ncut a 100000000\ncut a 10\ncut b 0"),
    (("add", ["cut"], [("add", ("add", 0), "~"), ("cut", ("cut", 1))]), "change add on cut\nadd add 0: ~\ncut cut 1"),
    (("0", ["1"], [("add", ("1", 1), "x"), ("cut", ("0", 0))]), "change 0 on 1\nadd 1 1: x\ncut 0 0"),
    (("a", [], [("add", None, "x" * 200)]), "change a\nadd -: " + "x" * 200),
    (("a", [], [("add", None, "x")] * 20), "change a" + "\nadd -: x" * 20),
]


def kinds(change):
    """The kinds of all that a change holds."""
    name, leans, deeds = change
    told = [type(change), type(name), type(leans), type(deeds)] + [type(lean) for lean in leans]
    for deed in deeds:
        told += [type(deed)] + [type(part) for part in deed]
        told += [type(part) for part in deed[1] or ()]
    return told


def is_note(text):
    """Whether a text is a note, by the form alone and by point 4."""
    rows = text.split("\n")
    if not HEAD.fullmatch(rows[0]) or not all(DEED.fullmatch(row) for row in rows[1:]):
        return False
    words = rows[0].split(" ")
    deeds = []
    for row in rows[1:]:
        head, _, line = row.partition(": ")
        word, *mark = head.split(" ")
        mark = None if mark == ["-"] else (mark[0], int(mark[1]))
        deeds.append((word, mark) if word == "cut" else (word, mark, line))
    try:
        check((words[1], words[3:], deeds))
    except WeaveError:
        return False
    return True


class Interface(Case):
    def test_functions_are_defined_in_their_file(self):
        self.assertEqual(written.__module__, "patchweave.notes")
        self.assertEqual(read.__module__, "patchweave.notes")


class Written(Case):
    def test_changes_are_written(self):
        for change, text in NOTES:
            with self.subTest(text=text):
                before = copy.deepcopy(change)
                self.assertEqual(written(change), text)
                self.assertIs(type(written(change)), str)
                self.assertEqual(change, before)

    def test_beyond_the_limits(self):
        # No point refuses to write what is somewhat longer.
        self.assertEqual(written(("a" * 13, [], [("add", None, "x" * 201)] * 21)),
                         "change " + "a" * 13 + ("\nadd -: " + "x" * 201) * 21)
        self.assertEqual(written(("a", [], [("cut", ("a", 1000000000))])), "change a\ncut a 1000000000")


class Read(Case):
    def test_notes_are_read(self):
        for change, text in NOTES:
            with self.subTest(text=text):
                self.assertEqual(read(text), change)
                self.assertEqual(kinds(read(text)), kinds(change))

    def test_many_leans(self):
        leans = sorted(f"n{n}" for n in range(60))
        change = ("a", leans, [("cut", (lean, 0)) for lean in leans[:20]])
        self.assertEqual(read(written(change)), change)

    def test_whatever_signs_a_line_has(self):
        for sign in [chr(n) for n in range(32, 127) if n != 37]:
            for line in [sign, sign * 200, sign + "a", "a" + sign, " " + sign + " "]:
                change = ("a", [], [("add", None, line), ("set", ("a", 0), line)])
                self.assertEqual(read(written(change)), change)

    def test_webs(self):
        for seed in range(20):
            for change in web(seed, 40):
                self.assertEqual(read(written(change)), change)
                self.assertEqual(kinds(read(written(change))), kinds(change))

    def test_a_weave_of_what_was_read(self):
        weave = woven(*[read(written(change)) for change in web(3, 40)])
        self.assertEqual(weave.told(), woven(*web(3, 40)).told())
        change = change_to(weave, "new", weave.text() + ["more"])
        self.assertEqual(read(written(change)), change)

    def test_each_reading_has_lists_of_its_own(self):
        text = "change b on a\ncut a 0"
        told = read(text)
        told[1].clear()
        told[2].clear()
        self.assertEqual(read(text), ("b", ["a"], [("cut", ("a", 0))]))


class NoNotes(Case):
    def no_notes(self, *texts):
        for text in texts:
            with self.subTest(text=text):
                self.refuses(NoNote, read, text)
                self.assertFalse(is_note(text))

    def test_empty_texts_and_rows(self):
        self.no_notes("", "\n", "\n\n", " ", "change a\n", "\nchange a", "change a\n\n", "change a\n\nadd -: x",
                      "change a\nadd -: x\n", "change a\nadd -: x\n\nadd -: y", "\nadd -: x", "change a\n \nadd -: x")

    def test_a_first_row_of_another_word(self):
        self.no_notes("a", "changes a", "Change a", "CHANGE a", "chang a", " change a", "add -: x", "cut a 0",
                      "change", "change ", "changea", "change\na", "add a", "note a")

    def test_leans(self):
        self.no_notes("change a on", "change a on ", "change a on  b", "change a  on b", "change a on b ",
                      "change a on b  c", "change  a", "change a ", "change a  ", "change  a on b", "change a b",
                      "change a b c", "change a on on on b c", "change a ON b", "change a on b, c", "change a on -",
                      "change a\non b", "change a on b\n", "change on on", "change on on ", "change a of b",
                      "change a at b c")

    def test_names(self):
        self.no_notes("change A", "change " + "a" * 13, "change a-b", "change \u00e9", "change \u0663", "change a:",
                      "change a\t", "change a\r", "change a on B", "change a on " + "b" * 13, "change a on b\u00b2")

    def test_leans_that_point_4_does_not_let_by(self):
        self.no_notes("change a on c b", "change a on b b", "change a on a", "change a on a b", "change b on a b c",
                      "change x on 9 10", "change x on a 9")

    def test_rows_of_another_word(self):
        self.no_notes("change a\nmove -: x", "change a\nAdd -: x", "change a\nadds -: x", "change a\n add -: x",
                      "change a\nput a 0: x", "change a\n-: x", "change a\nx", "change a\nadd", "change a\nadd ",
                      "change a\ncut", "change a\ncut ", "change a\nset", "change a\nset ", "change a\nchange b",
                      "change a\nadd-: x", "change a\nadd -: x\nout 0", "change a\n: x")

    def test_numbers(self):
        for number in ["-1", "+1", "-0", "+0", "00", "01", "007", "0000000001", "1000000000", "9999999999",
                       "0" * 9, "0" * 10, "1" * 10, "1" * 40, "", "x", "a", "1x", "x1", "1.0", "1,0", "1_0",
                       "_1", "0x1", "1e3", "\u0661", "\u00b2", "\u2460", "\uff11", "1\u0661", "-", "1:", " 1", "1 ", "1 1",
                       "\t1", "1\r", "1\t", "\u00bd", "\u00a01"]:
            self.no_notes(f"change b on a\nadd a {number}: x", f"change b on a\ncut a {number}",
                          f"change b on a\nset a {number}: x", f"change b on a\ncut b {number}\ncut a 0")

    def test_the_top_in_a_cut_and_a_set(self):
        self.no_notes("change a\ncut -", "change a\nset -: x", "change a\nset -: ", "change a\nadd -: x\ncut -",
                      "change a\ncut -: x")

    def test_marks(self):
        self.no_notes("change b on a\nadd a: x", "change b on a\nadd 0: x", "change b on a\nadd a0: x",
                      "change b on a\nadd : x", "change b on a\nadd a 0 : x", "change b on a\nadd  a 0: x",
                      "change b on a\nadd a  0: x", "change b on a\nadd - : x", "change b on a\nadd --: x",
                      "change b on a\nadd - 0: x", "change b on a\nadd a -: x", "change b on a\nadd  -: x",
                      "change b on a\nadd A 0: x", "change b on a\nadd None: x", "change b on a\ncut a",
                      "change b on a\ncut 0", "change b on a\ncut  a 0", "change b on a\ncut a 0 ",
                      "change b on a\ncut a 0 0", "change b on a\ncut a:0", "change b on a\ncut a, 0",
                      "change b on a\ncut ('a', 0)", "change b on a\nadd 0 a: x")

    def test_colons_and_blanks(self):
        self.no_notes("change b on a\nadd a 0 x", "change b on a\nadd a 0", "change b on a\nadd a 0:",
                      "change b on a\nadd a 0:x", "change b on a\nadd a 0:x: y", "change b on a\nadd a 0 ",
                      "change b on a\nadd a 0; x", "change b on a\nadd -", "change b on a\nadd -:",
                      "change b on a\nadd -:x", "change b on a\nadd - x", "change b on a\nset a 0 x",
                      "change b on a\nset a 0:", "change b on a\nset a 0:x", "change b on a\nset a 0",
                      "change b on a\nset a 0:x: y", "change b on a\nadd -\n: x", "change b on a\nadd a 0:\tx",
                      "change b on a\ncut a 0: x", "change b on a\ncut a 0:", "change b on a\ncut a 0: ",
                      "change b on a\ncut a 0 x", "change b on a\nadd a 0:\u00a0x")

    def test_lines(self):
        for line in ["x" * 201, " " * 201, "x" * 400, "\t", "x\t", "\tx", "x\r", "\r", "\x00", "\x1f", "\x7f",
                     "\u00e9", "\u2028", "\x85", "\x0b", "\x0c", "\u00a0"]:
            self.no_notes("change a\nadd -: " + line, "change b on a\nset a 0: " + line,
                          "change a\nadd -: x\nadd a 0: " + line, "change a\nadd -: " + line + "\nadd a 0: x")

    def test_other_line_ends(self):
        self.no_notes("change a\r\nadd -: x", "change a\radd -: x", "change a\nadd -: x\r\nadd -: y",
                      "change a\u2028add -: x", "change a\x0badd -: x", "change a\nadd -: x\r")

    def test_more_that_point_4_does_not_let_by(self):
        self.no_notes("change a" + "\nadd -: x" * 21, "change b on a" + "\ncut a 0" * 21,
                      "change a" + "\nadd -: x" * 100, "change b on a\ncut c 0", "change b\ncut a 0",
                      "change b on a\nadd c 0: x",
                      "change b on a\nset c 0: x", "change b on a\ncut a 0\ncut ab 0", "change a on a\ncut a 0")

    def test_notes_with_a_sign_more_or_less(self):
        mixer = Mixer(21)
        signs = list(" \n:-0a1b9A\t~+") + ["on", "\u0661", "  ", ": ", "\r", "00", "change ", "cut"]
        let_by = 0
        for _, text in NOTES:
            for at in range(min(len(text), 60) + 1):
                texts = [text[:at] + text[at + 1:], text[:at] + mixer.one(signs) + text[at:],
                         text[:at] + mixer.one(signs) + text[at + 1:], text[:at] + text[at:at + 1] + text[at:],
                         text[:at]]
                for other in texts:
                    with self.subTest(text=other):
                        if is_note(other):
                            let_by += 1
                            self.assertIsNone(check(read(other)))
                            self.assertEqual(written(read(other)), other)
                        else:
                            self.refuses(NoNote, read, other)
        self.assertGreater(let_by, 100)


if __name__ == "__main__":
    unittest.main()
