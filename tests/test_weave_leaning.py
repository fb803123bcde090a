"""The weave: point 6, heights and leaning, and point 7, taking out."""

import unittest

from patchweave.errors import Missing, Twice
from patchweave.weave import Weave
from weaving import Case, Mixer, another_order, grounds, lines_of, model, state, web, woven


def bare(name, *leans):
    return (name, list(leans), [])


# d leans on a by two ways, and at three removes by one of them.
LADDER = [bare("a"), bare("b", "a"), bare("c", "b"), bare("d", "a", "c"), bare("x"), bare("y", "d", "x"),
          bare("z", "x")]


class Heights(Case):
    def test_a_change_without_leans(self):
        weave = woven(bare("a"), lines_of("b", 3))
        self.assertEqual([weave.height("a"), weave.height("b")], [0, 0])

    def test_one_more_than_the_greatest(self):
        weave = woven(*LADDER)
        self.assertEqual([weave.height(name) for name in "abcdxyz"], [0, 1, 2, 3, 0, 4, 1])

    def test_the_greatest_wherever_it_stands_among_the_leans(self):
        weave = woven(bare("m"), bare("n", "m"), bare("o", "n"), bare("p"))
        for at, leans in enumerate([["m", "o"], ["o", "p"], ["m", "o", "p"], ["m", "n", "o", "p"]]):
            weave.add(bare(f"q{at}", *leans))
            self.assertEqual(weave.height(f"q{at}"), 3)

    def test_a_chain_of_sixty(self):
        weave = Weave()
        weave.add(bare("n0"))
        for at in range(1, 60):
            weave.add(bare(f"n{at}", f"n{at - 1}"))
        self.assertEqual([weave.height(f"n{at}") for at in range(60)], list(range(60)))
        self.assertEqual(weave.ground("n59"), sorted(f"n{at}" for at in range(59)))
        self.assertEqual(weave.leaning("n0"), sorted(f"n{at}" for at in range(1, 60)))


class Leaning(Case):
    def test_ground_over_several_removes(self):
        weave = woven(*LADDER)
        self.assertEqual([weave.ground(name) for name in "abcdxyz"],
                         [[], ["a"], ["a", "b"], ["a", "b", "c"], [], ["a", "b", "c", "d", "x"], ["x"]])

    def test_leaning_over_several_removes(self):
        weave = woven(*LADDER)
        self.assertEqual([weave.leaning(name) for name in "abcdxyz"],
                         [["b", "c", "d", "y"], ["c", "d", "y"], ["d", "y"], ["y"], ["y", "z"], [], []])

    def test_two_ways_to_the_same_change(self):
        weave = woven(bare("a"), bare("b", "a"), bare("c", "a"), bare("d", "b", "c"))
        self.assertEqual(weave.ground("d"), ["a", "b", "c"])
        self.assertEqual(weave.leaning("a"), ["b", "c", "d"])

    def test_rising_as_texts(self):
        weave = woven(bare("9"), bare("a"), bare("10"), bare("m", "10", "9", "a"), bare("0"))
        self.assertEqual(weave.ground("m"), ["10", "9", "a"])
        weave = woven(bare("m"), bare("9", "m"), bare("a", "m"), bare("10", "a"), bare("b", "9"))
        self.assertEqual(weave.leaning("m"), ["10", "9", "a", "b"])

    def test_deeds_are_not_asked(self):
        # Leaning is told by the leans alone, whether or not a line is told.
        weave = woven(lines_of("a", 1), ("b", ["a"], [("cut", ("a", 0))]), ("c", ["a"], []))
        self.assertEqual(weave.leaning("a"), ["b", "c"])

    def test_a_change_that_came_later_leans(self):
        weave = woven(*LADDER)
        self.assertEqual(weave.leaning("z"), [])
        weave.add(bare("0", "z"))
        self.assertEqual(weave.leaning("z"), ["0"])
        self.assertEqual(weave.leaning("x"), ["0", "y", "z"])

    def test_missing(self):
        for weave in [Weave(), woven(*LADDER)]:
            before = state(weave)
            for name in ["q", "", "aa", "A", "0", "a "]:
                for action in [weave.take, weave.change, weave.height, weave.ground, weave.leaning]:
                    with self.subTest(name=name, action=action.__name__):
                        self.refuses(Missing, action, name)
                        self.assertEqual(state(weave), before)

    def test_missing_once_it_was_taken_out(self):
        weave = woven(*LADDER)
        weave.take("c")
        for name in ["c", "d", "y"]:
            for action in [weave.take, weave.change, weave.height, weave.ground, weave.leaning]:
                self.refuses(Missing, action, name)

    def test_webs(self):
        for seed in range(10):
            changes = web(seed, 30)
            weave, told = woven(*changes), model(changes)
            for key in ["heights", "grounds", "leaning"]:
                self.assertEqual(state(weave)[key], told[key])


class Taken(Case):
    def take_is(self, changes, name, going):
        weave = woven(*changes)
        self.assertEqual(weave.take(name), going)
        left = [change for change in changes if change[0] not in going]
        self.assertEqual(state(weave), model(left))
        self.assertEqual(state(weave), state(woven(*left)))
        for each in going:
            self.refuses(Missing, weave.change, each)

    def test_one_on_which_none_leans(self):
        self.take_is(LADDER, "y", ["y"])
        self.take_is(LADDER, "z", ["z"])
        self.take_is([lines_of("a", 3)], "a", ["a"])

    def test_others_lean_at_several_removes(self):
        self.take_is(LADDER, "d", ["d", "y"])
        self.take_is(LADDER, "c", ["c", "d", "y"])
        self.take_is(LADDER, "b", ["b", "c", "d", "y"])
        self.take_is(LADDER, "a", ["a", "b", "c", "d", "y"])
        self.take_is(LADDER, "x", ["x", "y", "z"])

    def test_what_it_tells_rises_as_texts(self):
        self.take_is([bare("m"), bare("9", "m"), bare("z", "9"), bare("10", "z")], "m", ["10", "9", "m", "z"])

    def test_the_text_is_as_if_it_had_never_come(self):
        changes = [lines_of("a", 3),
                   ("b", ["a"], [("cut", ("a", 0)), ("set", ("a", 1), "b"), ("add", ("a", 1), "b 0")]),
                   ("c", ["a"], [("set", ("a", 1), "c")]), ("d", ["b"], [("add", ("b", 0), "d 0")])]
        weave = woven(*changes)
        self.assertEqual(weave.text(), ["b", "b 0", "d 0", "a 2"])
        self.assertEqual(weave.questions(), [(("a", 1), ["b", "c"])])
        self.assertEqual(weave.take("b"), ["b", "d"])
        self.assertEqual(weave.text(), ["a 0", "c", "a 2"])
        self.assertEqual(weave.questions(), [])
        self.assertEqual(weave.row(), [("a", 0), ("a", 1), ("a", 2)])
        for name, going in [("a", ["a", "b", "c", "d"]), ("b", ["b", "d"]), ("c", ["c"]), ("d", ["d"])]:
            self.take_is(changes, name, going)

    def test_all(self):
        self.take_is([bare("a"), bare("b", "a"), bare("c", "b")], "a", ["a", "b", "c"])
        weave = woven(*LADDER)
        self.assertEqual(weave.take("x"), ["x", "y", "z"])
        self.assertEqual(weave.take("a"), ["a", "b", "c", "d"])
        self.assertEqual(state(weave), model([]))

    def test_the_name_may_come_again(self):
        changes = [lines_of("a", 2), ("b", ["a"], [("set", ("a", 0), "b")]), ("c", ["b"], [])]
        weave = woven(*changes)
        weave.take("b")
        weave.add(changes[1])
        self.assertEqual(state(weave), model(changes[:2]))
        self.refuses(Twice, weave.add, changes[1])
        weave.take("b")
        other = ("b", [], [("add", None, "other")])
        weave.add(other)
        self.assertEqual(state(weave), model([changes[0], other]))
        # Nothing of the first b, its height and its leans among them, is left.
        self.assertEqual(weave.height("b"), 0)
        self.assertEqual(weave.take("a"), ["a"])
        self.assertEqual(state(weave), model([other]))

    def test_the_number_of_lines_may_be_another_afterwards(self):
        weave = woven(lines_of("a", 3))
        weave.take("a")
        weave.add(lines_of("a", 1))
        with self.assertRaises(ValueError):
            weave.add(("b", ["a"], [("cut", ("a", 1))]))
        weave.add(("b", ["a"], [("cut", ("a", 0))]))
        self.assertEqual(weave.text(), [])

    def test_webs(self):
        mixer = Mixer(77)
        for seed in range(10):
            changes = web(seed, 25)
            below = grounds({change[0]: change for change in changes})
            for name in mixer.mixed([change[0] for change in changes])[:8]:
                going = sorted([name] + [other for other in below if name in below[other]])
                self.take_is(another_order(changes, mixer), name, going)

    def test_take_after_take(self):
        mixer = Mixer(78)
        changes = web(11, 60)
        weave, left = woven(*changes), changes
        while left:
            name = mixer.one(weave.names())
            going = weave.take(name)
            self.assertIn(name, going)
            self.assertEqual(going, sorted(going))
            left = [change for change in left if change[0] not in going]
            self.assertEqual(state(weave), model(left))


if __name__ == "__main__":
    unittest.main()
