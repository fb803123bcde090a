"""Several weaves: point 11, with points 9 and 1."""

import copy
import unittest

from patchweave.errors import Missing, Other
from patchweave.joins import joined, part
from patchweave.weave import Weave
from weaving import Case, Mixer, another_order, lines_of, model, state, web, with_grounds, woven

A = lines_of("a", 2)
B = ("b", ["a"], [("set", ("a", 0), "b"), ("add", ("a", 0), "b 0")])
C = ("c", ["a"], [("set", ("a", 0), "c"), ("cut", ("a", 1))])
D = ("d", ["b", "c"], [("add", ("b", 0), "d 0")])
X = lines_of("x", 1)
Y = ("y", ["d", "x"], [])


class Interface(Case):
    def test_functions_are_defined_in_their_file(self):
        self.assertEqual(part.__module__, "patchweave.joins")
        self.assertEqual(joined.__module__, "patchweave.joins")


class Parts(Case):
    def part_is(self, names, changes):
        weave = woven(A, B, C, D, X, Y)
        before, handed = state(weave), list(names)
        told = part(weave, handed)
        self.assertIsInstance(told, Weave)
        self.assertIsNot(told, weave)
        self.assertEqual(state(told), model(changes))
        self.assertEqual(state(weave), before)
        self.assertEqual(handed, names)

    def test_no_name(self):
        self.part_is([], [])
        self.assertEqual(state(part(Weave(), [])), model([]))

    def test_one_name(self):
        self.part_is(["a"], [A])
        self.part_is(["b"], [A, B])
        self.part_is(["x"], [X])
        self.part_is(["d"], [A, B, C, D])
        self.part_is(["y"], [A, B, C, D, X, Y])

    def test_several_names(self):
        self.part_is(["a", "x"], [A, X])
        self.part_is(["x", "a"], [A, X])
        self.part_is(["b", "c"], [A, B, C])
        self.part_is(["d", "a"], [A, B, C, D])
        self.part_is(["c", "x", "b"], [A, B, C, X])
        self.part_is(["a", "b", "c", "d", "x", "y"], [A, B, C, D, X, Y])

    def test_a_name_twice(self):
        self.part_is(["b", "b"], [A, B])
        self.part_is(["b", "a", "b", "a"], [A, B])

    def test_missing(self):
        weave = woven(A, B, C, D, X)
        before = state(weave)
        for names in [["q"], ["q", "a"], ["a", "q"], ["a", "q", "b"], ["y"], [""], ["a", "b", "c", "d", "x", "aa"],
                      ["q", "q"]]:
            with self.subTest(names=names):
                self.refuses(Missing, part, weave, names)
                self.assertEqual(state(weave), before)
        self.refuses(Missing, part, Weave(), ["a"])

    def test_webs(self):
        mixer = Mixer(8)
        for seed in range(12):
            changes = web(seed, 40)
            weave = woven(*another_order(changes, mixer))
            for _ in range(5):
                names = [mixer.one(changes)[0] for _ in range(mixer.below(6))]
                self.assertEqual(state(part(weave, names)), model(with_grounds(changes, names)))


class Joined(Case):
    def joined_is(self, one, other, changes):
        left, right = woven(*one), woven(*other)
        for first, second in [(left, right), (right, left)]:
            told = joined(first, second)
            self.assertIsInstance(told, Weave)
            self.assertIsNot(told, left)
            self.assertIsNot(told, right)
            self.assertEqual(state(told), model(changes))
            self.assertEqual(state(left), model(one))
            self.assertEqual(state(right), model(other))

    def test_with_an_empty_weave(self):
        self.joined_is([], [], [])
        self.joined_is([A, B], [], [A, B])

    def test_weaves_that_share_none(self):
        self.joined_is([A, B], [X], [A, B, X])

    def test_weaves_that_share_changes(self):
        self.joined_is([A, B], [A, C], [A, B, C])
        self.joined_is([A, B], [A, B, C, D], [A, B, C, D])
        self.joined_is([A, B, C, D], [X, A, C], [A, B, C, D, X])

    def test_with_the_same_changes(self):
        self.joined_is([A, B, C], [A, C, B], [A, B, C])

    def test_with_itself(self):
        weave = woven(A, B, C, D)
        told = joined(weave, weave)
        self.assertIsNot(told, weave)
        self.assertEqual(state(told), model([A, B, C, D]))
        told.take("d")
        self.assertEqual(state(weave), model([A, B, C, D]))

    def test_parts_joined(self):
        weave = woven(A, B, C, D, X, Y)
        self.assertEqual(state(joined(part(weave, ["d"]), part(weave, ["x", "b"]))), model([A, B, C, D, X]))

    def test_webs(self):
        mixer = Mixer(9)
        for seed in range(12):
            changes = web(seed, 60)
            groups = [with_grounds(changes, [mixer.one(changes)[0] for _ in range(4)]) for _ in range(2)]
            both = [change for change in changes if change in groups[0] or change in groups[1]]
            self.joined_is(another_order(groups[0], mixer), another_order(groups[1], mixer), both)

    def test_three_in_any_grouping(self):
        one, two, three = woven(A, B), woven(A, C), woven(X)
        self.assertEqual(state(joined(joined(one, two), three)), state(joined(one, joined(two, three))))

    def test_sixty_and_sixty(self):
        low = [lines_of(f"n{n}", 2) for n in range(60)]
        high = [lines_of(f"m{n}", 2) for n in range(60)]
        self.assertEqual(state(joined(woven(*low), woven(*high))), model(low + high))


class OtherChange(Case):
    def differs(self, base, one, other):
        left, right = woven(*base, one), woven(*base, other)
        for first, second in [(left, right), (right, left)]:
            self.refuses(Other, joined, first, second)
            self.assertEqual(state(left), model([*base, one]))
            self.assertEqual(state(right), model([*base, other]))

    def test_other_leans(self):
        self.differs([A, B, X], ("n", ["a"], []), ("n", ["a", "b"], []))
        self.differs([A, B, X], ("n", ["a"], []), ("n", [], []))
        self.differs([A, B, X], ("n", ["a"], []), ("n", ["x"], []))

    def test_other_deeds(self):
        deed = ("cut", ("a", 0))
        self.differs([A, B, X], ("n", ["a"], [deed]), ("n", ["a"], []))
        self.differs([A, B, X], ("n", ["a"], [deed]), ("n", ["a"], [deed, deed]))
        self.differs([A, B, X], ("n", ["a"], [deed]), ("n", ["a"], [("set", ("a", 0), "x")]))
        self.differs([A, B, X], ("n", ["a"], [("add", ("a", 0), "x")]), ("n", ["a"], [("set", ("a", 0), "x")]))

    def test_other_words(self):
        self.differs([], ("n", [], [("add", None, "x")]), ("n", [], [("add", None, "x ")]))
        self.differs([A], ("n", ["a"], [("set", ("a", 0), "x")]), ("n", ["a"], [("set", ("a", 0), "")]))

    def test_other_marks(self):
        self.differs([A, B], ("n", ["a", "b"], [("cut", ("a", 0))]), ("n", ["a", "b"], [("cut", ("a", 1))]))
        self.differs([A, B], ("n", ["a", "b"], [("cut", ("a", 0))]), ("n", ["a", "b"], [("cut", ("b", 0))]))
        self.differs([A], ("n", ["a"], [("add", None, "x")]), ("n", ["a"], [("add", ("a", 1), "x")]))

    def test_deeds_in_another_order(self):
        deeds = [("cut", ("a", 0)), ("cut", ("a", 1))]
        self.differs([A], ("n", ["a"], deeds), ("n", ["a"], deeds[::-1]))
        deeds = [("add", None, "x"), ("add", None, "y")]
        self.differs([], ("n", [], deeds), ("n", [], deeds[::-1]))

    def test_only_one_of_many_differs(self):
        changes = [lines_of(f"n{n}", 1) for n in range(30)]
        for at in [0, 14, 29]:
            other = list(changes)
            other[at] = lines_of(f"n{at}", 2)
            self.refuses(Other, joined, woven(*changes), woven(*other[::-1], X))

    def test_the_different_one_is_leaned_on(self):
        one, other = woven(A, B), woven(lines_of("a", 3), B)
        self.refuses(Other, joined, one, other)
        self.refuses(Other, joined, other, one)
        other.take("a")
        self.assertEqual(state(joined(one, other)), model([A, B]))


class Apart(Case):
    """What is done to one weave does nothing to another."""

    def test_a_part(self):
        weave = woven(A, B, C)
        few = part(weave, ["b"])
        few.add(X)
        self.assertEqual(state(weave), model([A, B, C]))
        few.take("a")
        self.assertEqual(state(weave), model([A, B, C]))
        few = part(weave, ["b"])
        weave.add(D)
        weave.take("b")
        self.assertEqual(state(few), model([A, B]))

    def test_a_part_of_all(self):
        weave = woven(A, B)
        whole = part(weave, ["a", "b"])
        whole.take("b")
        self.assertEqual(state(weave), model([A, B]))
        weave.take("a")
        self.assertEqual(state(whole), model([A]))

    def test_a_joined_weave(self):
        one, other = woven(A, B), woven(A, C)
        both = joined(one, other)
        both.add(D)
        both.take("b")
        self.assertEqual(state(one), model([A, B]))
        self.assertEqual(state(other), model([A, C]))
        both = joined(one, other)
        one.take("a")
        other.add(X)
        self.assertEqual(state(both), model([A, B, C]))

    def test_the_lists_of_changes_are_apart(self):
        handed = copy.deepcopy([A, B])
        one = woven(*handed)
        both, few = joined(one, woven(X)), part(one, ["b"])
        for change in [*handed, one.change("b"), both.change("b"), few.change("b")]:
            change[1].append("z")
            change[2].clear()
        self.assertEqual(state(one), model([A, B]))
        self.assertEqual(state(both), model([A, B, X]))
        self.assertEqual(state(few), model([A, B]))


if __name__ == "__main__":
    unittest.main()
