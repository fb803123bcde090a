"""The weave: point 8, the row and the text, point 9, any order, and point 10, lines in question."""

import itertools
import unittest

from patchweave.orders import keeps
from weaving import Case, Mixer, another_order, lines_of, model, state, web, with_grounds, woven

A = lines_of("a", 3)


class TextCase(Case):
    def told_is(self, changes, row, told):
        """In each order that keeps leanings, and as the model has it."""
        for order in itertools.permutations(changes):
            if keeps(list(order)):
                weave = woven(*order)
                self.assertEqual(weave.row(), row)
                self.assertEqual(weave.told(), told)
                self.assertEqual(weave.text(), [words for _, words in told])
        self.assertEqual(model(changes)["row"], row)
        self.assertEqual(model(changes)["told"], told)


class Adds(TextCase):
    def test_one_behind_the_other(self):
        self.told_is([A], [("a", 0), ("a", 1), ("a", 2)], [(("a", 0), "a 0"), (("a", 1), "a 1"), (("a", 2), "a 2")])

    def test_at_the_top_the_later_deed_stands_ahead(self):
        self.told_is([("a", [], [("add", None, "x"), ("add", None, "y"), ("add", None, "z")])],
                     [("a", 2), ("a", 1), ("a", 0)], [(("a", 2), "z"), (("a", 1), "y"), (("a", 0), "x")])

    def test_at_the_top_the_greater_name_is_done_first(self):
        self.told_is([lines_of("a", 1), lines_of("b", 1), lines_of("9", 1), lines_of("10", 1)],
                     [("10", 0), ("9", 0), ("a", 0), ("b", 0)],
                     [(("10", 0), "10 0"), (("9", 0), "9 0"), (("a", 0), "a 0"), (("b", 0), "b 0")])

    def test_at_the_top_the_lesser_height_is_done_first(self):
        # By its name alone z would be done first and stand last.
        self.told_is([lines_of("a", 1), lines_of("z", 1, ["a"])], [("z", 0), ("a", 0)],
                     [(("z", 0), "z 0"), (("a", 0), "a 0")])

    def test_height_alone_orders_changes_that_do_not_lean_on_each_other(self):
        self.told_is([("a", [], []), lines_of("m", 1, ["a"]), lines_of("b", 1), lines_of("z", 1, ["a"])],
                     [("m", 0), ("z", 0), ("b", 0)], [(("m", 0), "m 0"), (("z", 0), "z 0"), (("b", 0), "b 0")])

    def test_behind_a_line_of_a_lean(self):
        self.told_is([A, ("b", ["a"], [("add", ("a", 1), "x")])],
                     [("a", 0), ("a", 1), ("b", 0), ("a", 2)],
                     [(("a", 0), "a 0"), (("a", 1), "a 1"), (("b", 0), "x"), (("a", 2), "a 2")])

    def test_behind_the_first_and_the_last_line(self):
        self.told_is([A, ("b", ["a"], [("add", ("a", 0), "x"), ("add", ("a", 2), "y")])],
                     [("a", 0), ("b", 0), ("a", 1), ("a", 2), ("b", 1)],
                     [(("a", 0), "a 0"), (("b", 0), "x"), (("a", 1), "a 1"), (("a", 2), "a 2"), (("b", 1), "y")])

    def test_behind_an_own_line(self):
        self.told_is([A, ("b", ["a"], [("add", ("a", 0), "x"), ("add", ("b", 0), "y"), ("add", ("b", 0), "z"),
                                       ("add", ("b", 1), "v")])],
                     [("a", 0), ("b", 0), ("b", 2), ("b", 1), ("b", 3), ("a", 1), ("a", 2)],
                     [(("a", 0), "a 0"), (("b", 0), "x"), (("b", 2), "z"), (("b", 1), "y"), (("b", 3), "v"),
                      (("a", 1), "a 1"), (("a", 2), "a 2")])

    def test_behind_a_gone_line(self):
        b, c = ("b", ["a"], [("cut", ("a", 1))]), ("c", ["a"], [("add", ("a", 1), "x")])
        self.told_is([A, b, c], [("a", 0), ("a", 1), ("c", 0), ("a", 2)],
                     [(("a", 0), "a 0"), (("c", 0), "x"), (("a", 2), "a 2")])
        d = ("d", ["b", "c"], [("cut", ("c", 0)), ("add", ("c", 0), "y")])
        self.told_is([A, b, c, d], [("a", 0), ("a", 1), ("c", 0), ("d", 0), ("a", 2)],
                     [(("a", 0), "a 0"), (("d", 0), "y"), (("a", 2), "a 2")])

    def test_behind_a_line_that_the_same_change_cut(self):
        self.told_is([A, ("b", ["a"], [("cut", ("a", 1)), ("add", ("a", 1), "x"), ("cut", ("b", 0)),
                                       ("add", ("b", 0), "y")])],
                     [("a", 0), ("a", 1), ("b", 0), ("b", 1), ("a", 2)],
                     [(("a", 0), "a 0"), (("b", 1), "y"), (("a", 2), "a 2")])

    def test_several_at_one_place(self):
        self.told_is([A, ("b", ["a"], [("add", ("a", 0), "b0"), ("add", ("b", 0), "b1")]),
                      ("c", ["a"], [("add", ("a", 0), "c0"), ("add", ("c", 0), "c1")]),
                      ("d", ["c"], [("add", ("c", 0), "d0")]),
                      ("e", ["a", "d"], [("add", ("a", 0), "e0")])],
                     [("a", 0), ("e", 0), ("b", 0), ("b", 1), ("c", 0), ("d", 0), ("c", 1), ("a", 1), ("a", 2)],
                     [(("a", 0), "a 0"), (("e", 0), "e0"), (("b", 0), "b0"), (("b", 1), "b1"), (("c", 0), "c0"),
                      (("d", 0), "d0"), (("c", 1), "c1"), (("a", 1), "a 1"), (("a", 2), "a 2")])

    def test_several_of_one_change_at_one_place(self):
        self.told_is([A, ("b", ["a"], [("add", ("a", 0), "x"), ("add", ("a", 0), "y")])],
                     [("a", 0), ("b", 1), ("b", 0), ("a", 1), ("a", 2)],
                     [(("a", 0), "a 0"), (("b", 1), "y"), (("b", 0), "x"), (("a", 1), "a 1"), (("a", 2), "a 2")])


class SetsAndCuts(TextCase):
    row = [("a", 0), ("a", 1), ("a", 2)]

    def words_are(self, changes, words):
        self.told_is(changes, self.row, [(mark, word) for mark, word in zip(self.row, words) if word is not None])

    def test_a_set(self):
        self.words_are([A, ("b", ["a"], [("set", ("a", 1), "x")])], ["a 0", "x", "a 2"])
        self.words_are([A, ("b", ["a"], [("set", ("a", 1), "")])], ["a 0", "", "a 2"])

    def test_a_cut(self):
        self.words_are([A, ("b", ["a"], [("cut", ("a", 0))])], [None, "a 1", "a 2"])
        self.words_are([A, ("b", ["a"], [("cut", ("a", 2)), ("cut", ("a", 0)), ("cut", ("a", 1))])], [None] * 3)

    def test_two_sets_the_last_in_the_plain_order_holds(self):
        b, c = ("b", ["a"], [("set", ("a", 1), "b")]), ("c", ["a"], [("set", ("a", 1), "c")])
        self.words_are([A, b, c], ["a 0", "b", "a 2"])
        # At a greater height it is done later, whatever its name.
        c = ("c", ["a", "b"], [("set", ("a", 1), "c")])
        self.words_are([A, b, c], ["a 0", "c", "a 2"])

    def test_sets_of_one_change_in_their_order(self):
        self.words_are([A, ("b", ["a"], [("set", ("a", 1), "x"), ("set", ("a", 1), "y")])], ["a 0", "y", "a 2"])

    def test_a_set_of_an_own_line(self):
        self.words_are([("a", [], [("add", None, "p"), ("set", ("a", 0), "q"), ("add", ("a", 0), "r"),
                                   ("add", ("a", 1), "s"), ("set", ("a", 2), "t")])], ["q", "r", "t"])

    def test_two_cuts(self):
        self.words_are([A, ("b", ["a"], [("cut", ("a", 1))]), ("c", ["a"], [("cut", ("a", 1))])], ["a 0", None, "a 2"])
        self.words_are([A, ("b", ["a"], [("cut", ("a", 1)), ("cut", ("a", 1))])], ["a 0", None, "a 2"])

    def test_a_gone_line_stays_gone(self):
        cut, words = ("cut", ("a", 1)), ("set", ("a", 1), "x")
        self.words_are([A, ("b", ["a"], [cut]), ("c", ["a"], [words])], ["a 0", None, "a 2"])
        self.words_are([A, ("b", ["a"], [words]), ("c", ["a"], [cut])], ["a 0", None, "a 2"])
        self.words_are([A, ("b", ["a"], [cut]), ("c", ["a", "b"], [words])], ["a 0", None, "a 2"])
        self.words_are([A, ("b", ["a"], [cut, words])], ["a 0", None, "a 2"])
        self.words_are([A, ("b", ["a"], [words, cut])], ["a 0", None, "a 2"])

    def test_lines_of_the_same_words_are_different_lines(self):
        same = ("a", [], [("add", None, "x"), ("add", ("a", 0), "x"), ("add", ("a", 1), "x")])
        self.words_are([same, ("b", ["a"], [("cut", ("a", 1)), ("set", ("a", 2), "y")])], ["x", None, "y"])


class AnyOrder(TextCase):
    def test_small_webs_in_each_order(self):
        for seed in range(12):
            changes = web(seed, 6)
            told = model(changes)
            for order in itertools.permutations(changes):
                if keeps(list(order)):
                    self.assertEqual(state(woven(*order)), told)

    def test_webs_in_several_orders(self):
        mixer = Mixer(3)
        for many in [10, 30, 60]:
            for seed in range(100, 106):
                changes = web(seed, many)
                told = model(changes)
                self.assertEqual(len(told["names"]), many)
                for _ in range(4):
                    self.assertEqual(state(woven(*another_order(changes, mixer))), told)

    def test_webs_after_changes_went_and_came_again(self):
        mixer = Mixer(4)
        for seed in range(20, 26):
            changes = web(seed, 30)
            weave = woven(*another_order(changes, mixer))
            for _ in range(5):
                going = weave.take(mixer.one(weave.names()))
                for change in another_order(changes, mixer):
                    if change[0] in going:
                        weave.add(change)
                self.assertEqual(state(weave), model(changes))

    def test_two_lines_keep_their_order_in_each_weave(self):
        mixer = Mixer(5)
        for seed in range(40, 52):
            changes = web(seed, 30)
            whole = woven(*changes).row()
            for _ in range(6):
                names = [mixer.one(changes)[0] for _ in range(1 + mixer.below(6))]
                few = with_grounds(changes, names)
                there = [change[0] for change in few]
                self.assertEqual(woven(*few).row(), [mark for mark in whole if mark[0] in there])

    def test_a_row_only_grows(self):
        for seed in range(60, 66):
            changes = web(seed, 25)
            for many in range(len(changes)):
                row, longer = woven(*changes[:many]).row(), woven(*changes[:many + 1]).row()
                self.assertEqual([mark for mark in longer if mark in row], row)


class Questions(Case):
    def questions_are(self, changes, questions):
        for order in itertools.permutations(changes):
            if keeps(list(order)):
                self.assertEqual(woven(*order).questions(), questions)
        self.assertEqual(model(changes)["questions"], questions)

    def sets(self, name, *leans, line="", at=0):
        return (name, list(leans), [("set", ("a", at), line or name)])

    def test_none_set_and_one_set(self):
        self.questions_are([A], [])
        self.questions_are([A, self.sets("b", "a")], [])

    def test_two_of_which_neither_leans_on_the_other(self):
        self.questions_are([A, self.sets("b", "a"), self.sets("c", "a")], [(("a", 0), ["b", "c"])])

    def test_two_of_which_one_leans_on_the_other(self):
        self.questions_are([A, self.sets("b", "a"), self.sets("c", "a", "b")], [])
        self.questions_are([A, self.sets("c", "a"), self.sets("b", "a", "c")], [])

    def test_two_of_which_one_leans_on_the_other_at_a_remove(self):
        self.questions_are([A, self.sets("b", "a"), ("m", ["b"], []), self.sets("c", "a", "m")], [])
        self.questions_are([A, self.sets("b", "a"), ("m", ["b"], []), ("n", ["m"], []), self.sets("c", "a", "n")], [])

    def test_one_that_leans_but_does_not_set_settles_nothing(self):
        self.questions_are([A, self.sets("b", "a"), self.sets("c", "a"), ("m", ["b", "c"], [])],
                           [(("a", 0), ["b", "c"])])
        self.questions_are([A, self.sets("b", "a"), self.sets("c", "a"), self.sets("m", "a", "b", "c", at=1)],
                           [(("a", 0), ["b", "c"])])

    def test_three(self):
        b, c = self.sets("b", "a"), self.sets("c", "a")
        self.questions_are([A, b, c, self.sets("d", "a")], [(("a", 0), ["b", "c", "d"])])
        self.questions_are([A, b, c, self.sets("d", "a", "b")], [(("a", 0), ["c", "d"])])
        self.questions_are([A, b, c, self.sets("d", "a", "c")], [(("a", 0), ["b", "d"])])
        self.questions_are([A, b, c, self.sets("d", "a", "b", "c")], [])
        self.questions_are([A, b, self.sets("c", "a", "b"), self.sets("d", "a", "b")], [(("a", 0), ["c", "d"])])
        self.questions_are([A, b, self.sets("c", "a", "b"), self.sets("d", "a", "c")], [])

    def test_the_names_rise_as_texts(self):
        self.questions_are([A, self.sets("9", "a"), self.sets("b", "a"), self.sets("10", "a")],
                           [(("a", 0), ["10", "9", "b"])])
        # A greater height does not count here.
        self.questions_are([A, ("z", ["a"], []), self.sets("b", "a", "z"), self.sets("c", "a")],
                           [(("a", 0), ["b", "c"])])

    def test_the_same_words(self):
        self.questions_are([A, self.sets("b", "a", line="x"), self.sets("c", "a", line="x")], [(("a", 0), ["b", "c"])])
        self.questions_are([A, self.sets("b", "a", line="a 0"), self.sets("c", "a", line="a 0")],
                           [(("a", 0), ["b", "c"])])

    def test_a_gone_line(self):
        b, c = self.sets("b", "a"), self.sets("c", "a")
        self.questions_are([A, b, c, ("d", ["a"], [("cut", ("a", 0))])], [])
        self.questions_are([A, b, c, ("d", ["a", "b", "c"], [("cut", ("a", 0))])], [])
        self.questions_are([A, b, c, ("d", ["a"], [("cut", ("a", 1))])], [(("a", 0), ["b", "c"])])
        self.questions_are([A, ("b", ["a"], [("set", ("a", 0), "x"), ("cut", ("a", 0))]), c], [])

    def test_one_change_that_sets_a_line_twice(self):
        twice = ("b", ["a"], [("set", ("a", 0), "x"), ("set", ("a", 0), "y")])
        self.questions_are([A, twice], [])
        self.questions_are([A, twice, self.sets("c", "a")], [(("a", 0), ["b", "c"])])

    def test_the_change_of_the_line_sets_it(self):
        own = ("a", [], [("add", None, "x"), ("set", ("a", 0), "y")])
        self.questions_are([own], [])
        # All others that set the line lean on its change.
        self.questions_are([own, self.sets("b", "a")], [])
        self.questions_are([own, self.sets("b", "a"), self.sets("c", "a")], [(("a", 0), ["b", "c"])])

    def test_an_add_and_a_cut_are_no_set(self):
        self.questions_are([A, ("b", ["a"], [("add", ("a", 0), "x")]), ("c", ["a"], [("add", ("a", 0), "y")])], [])
        self.questions_are([A, self.sets("b", "a"), ("c", ["a"], [("add", ("a", 0), "y"), ("cut", ("a", 2))])], [])

    def test_settled_for_one_line_alone(self):
        both = [("set", ("a", 0), "x"), ("set", ("a", 1), "x")]
        self.questions_are([A, ("b", ["a"], both), ("c", ["a"], both), ("d", ["a", "b", "c"], both[:1])],
                           [(("a", 1), ["b", "c"])])
        self.questions_are([A, ("b", ["a"], both), ("c", ["a", "b"], both[:1]), ("d", ["a"], both[1:])],
                           [(("a", 1), ["b", "d"])])

    def test_the_lines_stand_in_the_order_of_the_row(self):
        top = ("t", ["a"], [("add", None, "t 0"), ("add", ("a", 1), "t 1")])
        words = [("set", mark, "x") for mark in [("t", 1), ("a", 2), ("a", 0), ("t", 0), ("a", 1)]]
        self.questions_are([A, top, ("b", ["a", "t"], words), ("c", ["a", "t"], words)],
                           [(mark, ["b", "c"]) for mark in [("t", 0), ("a", 0), ("a", 1), ("t", 1), ("a", 2)]])

    def test_webs_have_questions(self):
        # So that the other tests over webs ask for something.
        self.assertGreater(sum(len(model(web(seed, 30))["questions"]) for seed in range(20)), 20)


if __name__ == "__main__":
    unittest.main()
