"""Orders: point 12, with the height of point 6, the plain order of point 8 and point 1."""

import copy
import unittest

from patchweave.errors import Missing, Ring, Twice
from patchweave.orders import keeps, plain_order


def bare(name, *leans):
    return (name, list(leans), [])


def names_of(changes):
    return [change[0] for change in changes]


def mixed(changes, step):
    """The changes in another order, by steps over the list; step and length have no common divisor."""
    return [changes[(at * step + 3) % len(changes)] for at in range(len(changes))]


def expected(changes):
    """The plain order, worked out from the heights, each found by going down all leanings."""
    table = {change[0]: change for change in changes}
    known = {}

    def height(name):
        if name not in known:
            known[name] = max([height(lean) + 1 for lean in table[name][1]], default=0)
        return known[name]

    rows = sorted(changes, key=lambda change: change[0], reverse=True)
    return sorted(rows, key=lambda change: height(change[0]))


def chain(length):
    """Each change leans on the one ahead; the names do not rise with the heights."""
    names = [f"n{at * 7 % length}" for at in range(length)]
    return [bare(name, *names[max(0, at - 1):at]) for at, name in enumerate(names)]


def web(length):
    """Changes that lean on several others, high and low ones."""
    changes = []
    for at in range(length):
        leans = sorted({f"w{at // 2}", f"w{at // 3}", f"w{at - 1}", f"w{at * 5 % 11}"} - {f"w{at}", "w-1"})
        leans = [lean for lean in leans if int(lean[1:]) < at and at % 6 != 0]
        changes.append((f"w{at}", leans, [("add", None, f"line {at}")]))
    return changes


class Case(unittest.TestCase):
    def order_is(self, changes, names):
        before = copy.deepcopy(changes)
        told = plain_order(changes)
        self.assertIsInstance(told, list)
        self.assertEqual(names_of(told), names)
        table = {change[0]: change for change in changes}
        self.assertEqual(told, [table[name] for name in names])
        self.assertEqual(changes, before)
        self.assertIs(keeps(told), True)

    def refuses(self, error, changes):
        before = copy.deepcopy(changes)
        with self.assertRaises(error) as caught:
            plain_order(changes)
        self.assertIs(type(caught.exception), error)
        self.assertIs(keeps(changes), False)
        self.assertEqual(changes, before)


class Interface(Case):
    def test_functions_are_defined_in_their_file(self):
        self.assertEqual(keeps.__module__, "patchweave.orders")
        self.assertEqual(plain_order.__module__, "patchweave.orders")


class PlainOrder(Case):
    def test_the_empty_list(self):
        self.order_is([], [])

    def test_one_change(self):
        self.order_is([bare("a")], ["a"])

    def test_the_greater_name_first(self):
        self.order_is([bare("a"), bare("b")], ["b", "a"])
        self.order_is([bare("b"), bare("a")], ["b", "a"])

    def test_names_are_compared_as_texts(self):
        for names in [["10", "9", "a"], ["a", "9", "10"], ["9", "a", "10"], ["10", "a", "9"]]:
            with self.subTest(names=names):
                self.order_is([bare(name) for name in names], ["a", "9", "10"])
        self.order_is([bare(name) for name in ["a", "aa", "a0", "b", "0", "00", "1"]],
                      ["b", "aa", "a0", "a", "1", "00", "0"])

    def test_the_lesser_height_first_whatever_the_names(self):
        self.order_is([bare("a"), bare("z", "a")], ["a", "z"])
        self.order_is([bare("z", "a"), bare("a")], ["a", "z"])
        self.order_is([bare("z"), bare("a", "z"), bare("b")], ["z", "b", "a"])

    def test_the_greater_name_first_above_the_ground(self):
        self.order_is([bare("0"), bare("10", "0"), bare("9", "0"), bare("a", "0")], ["0", "a", "9", "10"])

    def test_height_is_one_more_than_the_greatest_of_several_leans(self):
        # d leans on a of height 0 and on c of height 2, so it is of height 3,
        # behind e of height 2 and ahead of f of height 4.
        changes = [bare("a"), bare("b", "a"), bare("c", "b"), bare("d", "a", "c"), bare("e", "b"),
                   bare("f", "a", "d"), bare("x", "a"), bare("z")]
        names = ["z", "a", "x", "b", "e", "c", "d", "f"]
        self.order_is(changes, names)
        self.order_is(changes[::-1], names)
        for step in [3, 5, 7]:
            self.order_is(mixed(changes, step), names)

    def test_height_does_not_count_the_leans(self):
        # m has five leans of height 0 and is of height 1; a is of height 2.
        changes = [bare("p"), bare("q"), bare("r"), bare("s"), bare("t"), bare("m", "p", "q", "r", "s", "t"),
                   bare("n", "p"), bare("a", "n"), bare("l", "m")]
        self.order_is(changes, ["t", "s", "r", "q", "p", "n", "m", "l", "a"])

    def test_leans_twice_and_falling_ones(self):
        self.order_is([bare("c", "b", "a", "b"), bare("b", "a", "a"), bare("a")], ["a", "b", "c"])

    def test_chains_of_up_to_61(self):
        for length in [2, 3, 10, 60, 61, 75]:
            with self.subTest(length=length):
                changes = chain(length)
                names = names_of(changes)
                self.order_is(changes, names)
                self.order_is(changes[::-1], names)
                self.order_is(mixed(changes, 29), names)

    def test_61_without_leans(self):
        changes = [bare(str(n)) for n in range(61)]
        names = sorted(names_of(changes), reverse=True)
        self.order_is(changes, names)
        self.order_is(changes[::-1], names)
        self.order_is(mixed(changes, 17), names)

    def test_61_each_on_all_ahead(self):
        changes = [bare(f"n{at}", *sorted(f"n{n}" for n in range(at))) for at in range(61)]
        names = [f"n{at}" for at in range(61)]
        self.order_is(changes, names)
        self.order_is(changes[::-1], names)
        self.order_is(mixed(changes, 17), names)

    def test_webs_in_every_order(self):
        for length in [7, 13, 31, 61]:
            changes = web(length)
            names = names_of(expected(changes))
            for step in [1, 2, 3, 5, 8, 11, 19, 60, 64]:
                with self.subTest(length=length, step=step):
                    self.order_is(mixed(changes, step), names)
            self.order_is(changes, names)
            self.order_is(changes[::-1], names)

    def test_the_plain_order_stays(self):
        told = plain_order(web(61))
        self.order_is(told, names_of(told))


class Keeps(Case):
    def test_lists_that_keep_leanings(self):
        for changes in [[], [bare("a")], [bare("a"), bare("b")], [bare("b"), bare("a")],
                        [bare("a"), bare("b", "a")], [bare("b"), bare("a", "b"), bare("c", "a", "b")],
                        [bare("a"), bare("b", "a"), bare("0"), bare("c", "0", "b")],
                        chain(61), web(61), [bare(str(n)) for n in range(61)]]:
            with self.subTest(changes=names_of(changes)):
                before = copy.deepcopy(changes)
                self.assertIs(keeps(changes), True)
                self.assertEqual(changes, before)

    def test_lists_that_do_not(self):
        for changes in [[bare("b", "a"), bare("a")], [bare("a"), bare("c", "a", "b"), bare("b")],
                        [bare("c", "a", "b"), bare("a"), bare("b")], chain(61)[::-1], mixed(chain(61), 29),
                        chain(60)[1:] + chain(60)[:1], chain(60)[:58] + chain(60)[59:] + chain(60)[58:59]]:
            with self.subTest(changes=names_of(changes)):
                before = copy.deepcopy(changes)
                self.assertIs(keeps(changes), False)
                self.assertEqual(changes, before)

    def test_the_plain_order_is_not_asked(self):
        self.assertIs(keeps([bare("a"), bare("b", "a"), bare("z")]), True)


class Refused(Case):
    def test_a_name_twice(self):
        self.refuses(Twice, [bare("a"), bare("a")])
        self.refuses(Twice, [bare("a"), bare("b", "a"), bare("a")])
        self.refuses(Twice, [bare("b"), bare("a"), bare("a")])
        self.refuses(Twice, [bare("a"), bare("b"), bare("b", "a")])
        self.refuses(Twice, [("a", [], [("add", None, "x")]), ("a", [], [("add", None, "y")])])
        self.refuses(Twice, chain(60) + chain(60)[:1])
        self.refuses(Twice, chain(60) + chain(60)[59:])

    def test_the_very_same_change_twice(self):
        change = bare("a")
        self.refuses(Twice, [change, change])

    def test_a_lean_that_none_has(self):
        self.refuses(Missing, [bare("a", "b")])
        self.refuses(Missing, [bare("a"), bare("b", "c")])
        self.refuses(Missing, [bare("a", "0"), bare("b")])
        self.refuses(Missing, [bare("a"), bare("b"), bare("c", "a", "b", "d")])
        self.refuses(Missing, [bare("a"), bare("c", "0", "a")])
        self.refuses(Missing, [bare("a"), bare("c", "a", "aa", "b"), bare("b")])
        self.refuses(Missing, chain(61)[1:])
        self.refuses(Missing, chain(61)[:30] + chain(61)[31:])

    def test_rings(self):
        self.refuses(Ring, [bare("a", "a")])
        self.refuses(Ring, [bare("a"), bare("b", "b")])
        self.refuses(Ring, [bare("a"), bare("b", "a", "b"), bare("c", "a")])
        self.refuses(Ring, [bare("a", "b"), bare("b", "a")])
        self.refuses(Ring, [bare("b", "a"), bare("a", "b"), bare("c"), bare("d", "c")])
        self.refuses(Ring, [bare("a", "c"), bare("b", "a"), bare("c", "b")])
        self.refuses(Ring, [bare("a"), bare("b", "a", "d"), bare("c", "b"), bare("d", "a", "c"), bare("e", "d")])

    def test_a_ring_below_others(self):
        self.refuses(Ring, [bare("z", "a"), bare("a", "b"), bare("b", "a")])
        self.refuses(Ring, [bare("a"), bare("b", "a"), bare("y", "x"), bare("x", "y"), bare("z", "b", "x")])

    def test_long_rings(self):
        for length in [4, 60, 61, 75]:
            with self.subTest(length=length):
                changes = chain(length)
                changes[0] = bare(changes[0][0], changes[-1][0])
                self.refuses(Ring, changes)
                self.refuses(Ring, changes[::-1])
                changes = chain(length)
                changes[length - 2] = bare(changes[length - 2][0], changes[length - 3][0], changes[length - 1][0])
                self.refuses(Ring, changes)

    def test_twice_ahead_of_missing(self):
        self.refuses(Twice, [bare("a", "b"), bare("a", "b")])
        self.refuses(Twice, [bare("a", "b"), bare("c"), bare("c")])
        self.refuses(Twice, [bare("c"), bare("c"), bare("a", "b")])

    def test_twice_ahead_of_ring(self):
        self.refuses(Twice, [bare("a", "a"), bare("a", "a")])
        self.refuses(Twice, [bare("a", "b"), bare("b", "a"), bare("c"), bare("c")])
        self.refuses(Twice, [bare("a", "a"), bare("a")])
        self.refuses(Twice, [bare("a"), bare("a", "a")])

    def test_missing_ahead_of_ring(self):
        self.refuses(Missing, [bare("a", "a", "b")])
        self.refuses(Missing, [bare("a", "a"), bare("b", "c")])
        self.refuses(Missing, [bare("b", "c"), bare("a", "a")])
        self.refuses(Missing, [bare("a", "b"), bare("b", "a"), bare("c", "a", "d")])
        self.refuses(Missing, [bare("c", "d"), bare("a", "b"), bare("b", "a")])

    def test_all_three(self):
        parts = [[bare("a", "a")], [bare("b", "x")], [bare("c"), bare("c")]]
        for first, second, third in [(0, 1, 2), (0, 2, 1), (1, 0, 2), (1, 2, 0), (2, 0, 1), (2, 1, 0)]:
            self.refuses(Twice, parts[first] + parts[second] + parts[third])


class NotAsked(Case):
    def test_deeds_and_leans_that_point_4_refuses(self):
        changes = [("b", ["a"], [("move", None), ("cut", None), ("add", ("x", -1), "\n")]),
                   ("a", [], [("set", ("b", 0), "x" * 300)] * 30)]
        self.order_is(changes, ["a", "b"])
        self.assertIs(keeps(changes), False)
        self.assertIs(keeps(changes[::-1]), True)

    def test_names_that_are_none(self):
        changes = [bare("Two words"), bare(""), bare("a" * 13, "", "Two words")]
        self.order_is(changes, ["Two words", "", "a" * 13])
        self.assertIs(keeps(changes), True)

    def test_numbers_that_point_5_refuses(self):
        changes = [("a", [], [("cut", ("a", 9))]), ("b", ["a"], [("set", ("a", 0), "x")])]
        self.order_is(changes, ["a", "b"])
        self.assertIs(keeps(changes), True)


class OwnLists(Case):
    def told_and_handed(self):
        handed = [("b", ["a"], [("cut", ("a", 0))]), ("a", [], [("add", None, "x")])]
        return handed, plain_order(handed)

    def test_each_change_is_a_tuple_with_lists(self):
        _, told = self.told_and_handed()
        for change in told:
            self.assertIsInstance(change, tuple)
            self.assertIsInstance(change[1], list)
            self.assertIsInstance(change[2], list)

    def test_what_was_handed_in_is_changed_afterwards(self):
        handed, told = self.told_and_handed()
        before = copy.deepcopy(told)
        for change in handed:
            change[1].append("z")
            change[2].clear()
        handed.clear()
        self.assertEqual(told, before)

    def test_what_was_told_is_changed_afterwards(self):
        handed, told = self.told_and_handed()
        before = copy.deepcopy(handed)
        again = plain_order(handed)
        for change in told:
            change[1].append("z")
            change[2].clear()
        told.clear()
        self.assertEqual(handed, before)
        self.assertEqual(again, [before[1], before[0]])
        self.assertEqual(plain_order(handed), [before[1], before[0]])

    def test_a_list_in_order_is_told_as_another(self):
        handed = [("a", [], [("add", None, "x")])]
        told = plain_order(handed)
        self.assertEqual(told, handed)
        self.assertIsNot(told, handed)
        self.assertIsNot(told[0][1], handed[0][1])
        self.assertIsNot(told[0][2], handed[0][2])

    def test_one_list_in_two_changes(self):
        leans, deeds = [], []
        told = plain_order([("a", leans, deeds), ("b", leans, deeds)])
        told[0][1].append("z")
        told[0][2].append(("cut", ("z", 0)))
        self.assertEqual(told[1], ("a", [], []))

    def test_the_empty_list_is_told_anew(self):
        handed = []
        told = plain_order(handed)
        told.append(bare("a"))
        self.assertEqual(handed, [])
        self.assertEqual(plain_order([]), [])


if __name__ == "__main__":
    unittest.main()
