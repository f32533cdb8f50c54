"""[15], [56]: wish trees."""

import random
import unittest

from heardonce.errors import InvalidLot, InvalidTopic, InvalidWay, InvalidWish, InvalidWishTree, TooMany
from heardonce.names import meets
from heardonce.wishlots import is_lot
from heardonce.wishtrees import (
    is_wish_tree, lot_of_tree, met_in_tree, tree_with, tree_without, trees_visited, wish_tree,
)
from tests.arguments import ArgumentChecks
from tests.topics import TOPICS, all_wishes, some_lot, some_short_wish, some_wish
from tests.values import ODD_VALUES, deep, other_kinds, part_at, paths_of, replaced

EMPTY = (None, None, (), None)
LEAF = ("light", None, (), None)
LOT = (("+", "light"), ("a/#", "paired"), ("a/b", "marked"))
TWELVE = tuple((name, "light") for name in "abcdefghijkl")


def below(steps, tree):
    """A tree behind some steps, and nothing else."""
    for step in reversed(steps):
        tree = (None, None, (), tree) if step == "+" else (None, None, ((step, tree),), None)
    return tree


def built(lot):
    """The wish tree of a lot, told by objects that change."""
    root = [None, None, {}, None]
    for wish, way in lot:
        node = root
        for step in wish.split("/"):
            if step == "#":
                node[1] = way
                break
            if step == "+":
                node[3] = node[3] or [None, None, {}, None]
                node = node[3]
            else:
                node = node[2].setdefault(step, [None, None, {}, None])
        else:
            node[0] = way
    return frozen(root)


def frozen(node):
    here, rest, named, wide = node
    return here, rest, tuple((name, frozen(named[name])) for name in sorted(named)), wide and frozen(wide)


def visited(tree, steps):
    many = 1
    if steps:
        nexts = [other for name, other in tree[2] if name == steps[0]] + [other for other in tree[3:] if other]
        many += sum(visited(other, steps[1:]) for other in nexts)
    return many


class Trees(unittest.TestCase):
    def test_told_one_by_one(self):
        for lot, tree in (
            ((), EMPTY), ((("#", "paired"),), (None, "paired", (), None)), ((("a", "light"),), below(["a"], LEAF)),
            ((("+", "light"),), (None, None, (), LEAF)),
            ((("a/b/c/d/#", "light"),), below("abcd", (None, "light", (), None))),
            ((("a/+/c/+/e", "light"),), below("a+c+e", LEAF)),
            ((("+/a", "marked"), ("b", "light"), ("c/#", "paired")), (
                None, None, (("b", LEAF), ("c", (None, "paired", (), None))), below("a", ("marked", None, (), None)),
            )),
        ):
            self.assertEqual(wish_tree(lot), tree)
            self.assertIs(is_wish_tree(tree), True)
            self.assertEqual(lot_of_tree(tree), lot)

    def test_there_and_back(self):
        dice = random.Random(1)
        for _ in range(1500):
            lot = some_lot(dice, 12, dice.choice((some_wish, some_short_wish)))
            tree = wish_tree(lot)
            self.assertEqual(tree, built(lot))
            self.assertIs(is_wish_tree(tree), True)
            self.assertEqual(lot_of_tree(tree), lot)

    def test_each_wish(self):
        for wish in all_wishes(5):
            self.assertEqual(lot_of_tree(wish_tree(((wish, "marked"),))), ((wish, "marked"),))

    def test_twelve_wishes(self):
        tree = wish_tree(TWELVE)
        self.assertEqual([name for name, _ in tree[2]], list("abcdefghijkl"))
        self.assertIs(is_wish_tree(tree), True)


class BentTrees(unittest.TestCase):
    def test_other_kinds(self):
        for tree in (EMPTY, wish_tree(LOT), wish_tree((("+/+/b", "light"), ("c/d/#", "paired")))):
            for path in paths_of(tree):
                for other in other_kinds(part_at(tree, path)):
                    # Without one of its ways or trees it may be the tree of another lot.
                    if other is not None:
                        self.assertIs(is_wish_tree(replaced(tree, path, other)), False, (path, other))

    def test_odd_values(self):
        for value in ODD_VALUES + (deep(25), (None,) * 4, (None, None, (), None, None), (None, None, ()), "a"):
            self.assertIs(is_wish_tree(value), False, value)

    def test_trees_to_which_no_wish_leads(self):
        tree = wish_tree(LOT)
        for path in ((2, 0, 1, 2, 0, 1, 3), (3, 3), (2, 0, 1, 3)):
            self.assertIs(is_wish_tree(replaced(tree, path, EMPTY)), False)
        self.assertIs(is_wish_tree(replaced(tree, (3,), EMPTY)), False)
        self.assertIs(is_wish_tree(replaced(tree, (2, 0, 1, 2, 0, 1), EMPTY)), False)
        self.assertIs(is_wish_tree(replaced(tree, (2, 0, 1, 2), ())), True)
        self.assertIs(is_wish_tree(replaced(tree, (2, 0, 1), (None, None, (), None))), False)

    def test_names(self):
        for names, is_one in (
            (("a", "b"), True), (("b", "a"), False), (("a", "a"), False), (("",), False), (("abcdefg",), False),
            (("abcdef",), True), (("+",), False), (("#",), False), (("a/b",), False), (("A",), False), ((1,), False),
            (("a", "ab", "b"), True), ((None,), False), ((("a",),), False),
        ):
            tree = (None, None, tuple((name, LEAF) for name in names), None)
            self.assertIs(is_wish_tree(tree), is_one, names)

    def test_pairs(self):
        for pair in ((), ("a",), ("a", LEAF, LEAF), ("a", LEAF, None), ["a", LEAF], "a", LEAF, ("a", None)):
            self.assertIs(is_wish_tree((None, None, (pair,), None)), False)
        odd = (5, None, (), None)
        self.assertIs(is_wish_tree((None, None, (("a", odd), ("a", LEAF)), None)), False)

    def test_ways(self):
        for way, is_one in (("light", True), ("paired", True), ("none", False), ("", False), (0, False), ((), False)):
            self.assertIs(is_wish_tree(below("a", (way, None, (), None))), is_one)
            self.assertIs(is_wish_tree(below("a", (None, way, (), None))), is_one)
            self.assertIs(is_wish_tree((None, way, (), None)), is_one)
            self.assertIs(is_wish_tree((way, None, (), None)), False)

    def test_steps(self):
        for sign in ("a", "+"):
            for many in range(1, 8):
                self.assertIs(is_wish_tree(below(sign * many, LEAF)), many <= 5)
                self.assertIs(is_wish_tree(below(sign * many, (None, "light", (), None))), many <= 4)

    def test_no_tree_behind_the_rest(self):
        self.assertIs(is_wish_tree((None, None, (("#", LEAF),), None)), False)
        self.assertIs(is_wish_tree((None, LEAF, (), None)), False)

    def test_too_many_wishes(self):
        thirteen = tuple((name, LEAF) for name in "abcdefghijklm")
        self.assertIs(is_wish_tree((None, None, thirteen[:12], None)), True)
        self.assertIs(is_wish_tree((None, None, thirteen, None)), False)
        self.assertIs(is_wish_tree((None, "light", thirteen[:12], None)), False)
        self.assertIs(is_wish_tree((None, None, thirteen[:12], LEAF)), False)
        both = ("light", "light", (), None)
        for many in (6, 7):
            tree = (None, None, tuple((name, both) for name in "abcdefg"[:many]), None)
            self.assertIs(is_wish_tree(tree), many == 6)

    def test_great_values(self):
        tree = LEAF
        for _ in range(9):
            tree = (None, None, tuple((name, tree) for name in "abcdefghijklm"), tree)
        self.assertIs(is_wish_tree(tree), False)
        tree = EMPTY
        for _ in range(9):
            tree = (None, None, (("a", tree),) * 1000, tree)
        self.assertIs(is_wish_tree(tree), False)


class Topics(unittest.TestCase):
    def test_beside_lots(self):
        dice = random.Random(2)
        for _ in range(40):
            lot = some_lot(dice, 12)
            tree = wish_tree(lot)
            for topic in TOPICS:
                self.assertEqual(met_in_tree(tree, topic), [pair for pair in lot if meets(topic, pair[0])])
                self.assertEqual(trees_visited(tree, topic), visited(tree, topic.split("/")))

    def test_trees_visited(self):
        self.assertEqual(trees_visited(EMPTY, "a"), 1)
        self.assertEqual(trees_visited(wish_tree((("#", "light"),)), "a/b/c/d/e"), 1)
        tree = wish_tree((("+/+/+", "light"), ("a/+/c", "light"), ("a/b/c", "light")))
        self.assertEqual([trees_visited(tree, topic) for topic in ("a", "a/b", "a/b/c", "a/b/c/d")], [3, 6, 9, 9])
        self.assertEqual(trees_visited(wish_tree((("a/b/c/d/e", "light"),)), "a/b/c"), 4)

    def test_new_lists(self):
        tree = wish_tree(LOT)
        met = met_in_tree(tree, "a")
        met.append(1)
        self.assertEqual(met_in_tree(tree, "a"), [("+", "light"), ("a/#", "paired")])


class Changes(unittest.TestCase):
    def test_beside_lots(self):
        dice = random.Random(3)
        for _ in range(1500):
            lot = some_lot(dice, 11, some_short_wish)
            tree, wish, way = wish_tree(lot), some_short_wish(dice), dice.choice(("light", "marked", "paired"))
            with_it = tuple(sorted({**dict(lot), wish: way}.items()))
            without_it = tuple(pair for pair in lot if pair[0] != wish)
            self.assertTrue(is_lot(with_it))
            self.assertEqual(tree_with(tree, wish, way), wish_tree(with_it))
            self.assertEqual(tree_without(tree, wish), wish_tree(without_it))
            self.assertEqual(tree_without(tree_with(tree, wish, way), wish), wish_tree(without_it))

    def test_wishes_that_tell_the_same(self):
        tree = tree_with(wish_tree((("#", "light"),)), "+/#", "light")
        self.assertEqual(lot_of_tree(tree), (("#", "light"), ("+/#", "light")))
        self.assertEqual(tree_without(tree, "a"), tree)

    def test_too_many(self):
        tree = wish_tree(TWELVE)
        for wish, _ in TWELVE:
            self.assertEqual(len(lot_of_tree(tree_with(tree, wish, "paired"))), 12)
            self.assertEqual(len(lot_of_tree(tree_without(tree, wish))), 11)
        for wish in ("m", "#", "a/#", "+"):
            with self.assertRaises(TooMany) as caught:
                tree_with(tree, wish, "light")
            self.assertEqual(caught.exception.limit, 12)
        self.assertEqual(len(lot_of_tree(tree_with(wish_tree(TWELVE[1:]), "m", "light"))), 12)

    def test_too_many_at_last(self):
        tree = wish_tree(TWELVE)
        for arguments, error in ((("#/a", "light"), InvalidWish), (("m", "none"), InvalidWay)):
            with self.assertRaises(error):
                tree_with(tree, *arguments)


class Arguments(ArgumentChecks, unittest.TestCase):
    def test_wrong_arguments(self):
        tree = wish_tree(LOT)
        trees = ((), LOT, list(tree), tree[:3], ("light", None, (), None), below("abcdef", LEAF))
        wishes, topics = ("", "#/a", "a/b/c/d/e/#"), ("", "+", "a/#")
        self.check_arguments(wish_tree, (LOT,), (InvalidLot,), ((LOT[::-1], list(LOT)),))
        self.check_arguments(lot_of_tree, (tree,), (InvalidWishTree,), (trees,))
        for function in (met_in_tree, trees_visited):
            self.check_arguments(function, (tree, "a"), (InvalidWishTree, InvalidTopic), (trees, topics))
        self.check_arguments(
            tree_with, (tree, "a", "light"), (InvalidWishTree, InvalidWish, InvalidWay), (trees, wishes, ("", None)),
        )
        self.check_arguments(tree_without, (tree, "a"), (InvalidWishTree, InvalidWish), (trees, wishes))


if __name__ == "__main__":
    unittest.main()
