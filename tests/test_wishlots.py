"""[14], [55], and of [3] the lots that tell the same by as few wishes as there are."""

import random
import unittest
from itertools import combinations

from heardonce.errors import InvalidLot, InvalidTopic
from heardonce.names import meets
from heardonce.wishlots import fewest_wishes, idle_wishes, is_lot, topic_between, way_in
from tests.arguments import ArgumentChecks
from tests.topics import TOPICS, all_wishes, bits, some_lot, some_short_wish
from tests.values import ODD_VALUES, bent

WAYS = ("light", "marked", "paired")
RANK = {None: -1, "light": 0, "marked": 1, "paired": 2}
LOT = (("#", "light"), ("+/b", "paired"), ("a", "marked"), ("a/#", "light"))
TWELVE = tuple((name, "light") for name in "abcdefghijkl")
CANDIDATES = tuple(all_wishes(5))


def told(lot):
    """For each way the topics that a lot tells at least so, as bits."""
    levels = []
    for way in WAYS:
        level = 0
        for wish, own in lot:
            if RANK[own] >= RANK[way]:
                level |= bits(wish)
        levels.append(level)
    return tuple(levels)


def first_untold(levels, lot):
    for rank, (level, own) in enumerate(zip(levels, told(lot))):
        left = level & ~own
        if left:
            return rank, left & -left
    return None


def can_be_told(levels, lot, more):
    """Whether a lot with so many wishes more can tell all that is asked, and nothing else."""
    untold = first_untold(levels, lot)
    if untold is None:
        return True
    if more == 0:
        return False
    least, topic = untold
    for wish in CANDIDATES:
        met = bits(wish)
        if met & topic:
            for rank in range(least, 3):
                if met & ~levels[rank] == 0 and can_be_told(levels, lot + ((wish, WAYS[rank]),), more - 1):
                    return True
    return False


class Lots(unittest.TestCase):
    def test_how_many(self):
        for many in range(13):
            self.assertIs(is_lot(TWELVE[:many]), True)
        self.assertIs(is_lot(TWELVE + (("m", "light"),)), False)
        self.assertIs(is_lot(LOT), True)

    def test_wishes_twice_or_out_of_order(self):
        self.assertIs(is_lot((("a", "light"), ("a", "paired"))), False)
        self.assertIs(is_lot((("a", "light"), ("a", "light"))), False)
        self.assertIs(is_lot((("b", "light"), ("a", "light"))), False)
        for at in range(len(LOT) - 1):
            self.assertIs(is_lot(LOT[:at] + LOT[at:at + 2][::-1] + LOT[at + 2:]), False)

    def test_other_kinds(self):
        for other in bent(LOT):
            self.assertIs(is_lot(other), False, other)
        for value in ODD_VALUES + ((("a",),), (("a", "light", "light"),), (("a", None),), (("#/a", "light"),)):
            self.assertIs(is_lot(value), False, value)
        self.assertIs(is_lot((("a/#", "bright"),)), False)


class Ways(unittest.TestCase):
    def test_beside_topics(self):
        dice = random.Random(1)
        for _ in range(60):
            lot = some_lot(dice, 12)
            for topic in TOPICS:
                ways = [way for wish, way in lot if meets(topic, wish)]
                self.assertEqual(way_in(lot, topic), max(ways, key=lambda way: RANK[way], default=None))

    def test_greatest_way(self):
        lot = (("#", "light"), ("+", "paired"), ("a", "marked"))
        self.assertEqual([way_in(lot, topic) for topic in ("a", "b", "a/b")], ["paired", "paired", "light"])
        self.assertIsNone(way_in((), "a"))


class Between(unittest.TestCase):
    def check_between(self, lot, other):
        topic = topic_between(lot, other)
        if topic is None:
            self.assertEqual(told(lot), told(other), (lot, other))
        else:
            self.assertNotEqual(way_in(lot, topic), way_in(other, topic), (lot, other))

    def test_lots(self):
        dice = random.Random(2)
        for _ in range(1500):
            self.check_between(some_lot(dice, 12), some_lot(dice, 12))

    def test_lots_that_are_like(self):
        dice = random.Random(3)
        for _ in range(1500):
            lot = some_lot(dice, 6, some_short_wish)
            left = tuple(pair for pair in lot if dice.randrange(4))
            self.check_between(lot, left)
            self.check_between(left, lot)
            self.assertIsNone(topic_between(lot, lot))

    def test_same_by_other_wishes(self):
        for lot, other in (
            ((("#", "light"),), (("+/#", "light"),)),
            ((("a/#", "paired"),), (("a", "paired"), ("a/+/#", "paired"))),
            ((("#", "marked"),), (("+", "marked"), ("+/+/#", "marked"))),
            ((("+/+/+/+/#", "light"),), (("+/+/+/+", "light"), ("+/+/+/+/+", "light"))),
        ):
            self.assertIsNone(topic_between(lot, other))
        for lot, other in (
            ((("#", "light"),), (("+/#", "marked"),)), ((("a/#", "paired"),), (("a", "light"), ("a/+/#", "paired"))),
            ((), (("a/b/c/d/e", "light"),)), ((("a", "light"),), (("+", "light"),)),
            ((("+/+/+/+/#", "light"),), (("+/+/+/+/+", "light"),)),
        ):
            self.check_between(lot, other)
            self.assertIsNotNone(topic_between(lot, other))
            self.assertIsNotNone(topic_between(other, lot))


class Idle(unittest.TestCase):
    def test_beside_topics(self):
        dice = random.Random(4)
        for _ in range(600):
            lot = some_lot(dice, 12, some_short_wish)
            idle = [pair for pair in lot if told(tuple(other for other in lot if other != pair)) == told(lot)]
            self.assertEqual(idle_wishes(lot), idle, lot)

    def test_new_lists(self):
        lot = (("#", "light"), ("a", "light"))
        idle = idle_wishes(lot)
        idle.append(1)
        self.assertEqual(idle_wishes(lot), [("a", "light")])


class Fewest(unittest.TestCase):
    def check_fewest(self, lot):
        fewest = fewest_wishes(lot)
        self.assertIs(is_lot(fewest), True)
        self.assertLessEqual(len(fewest), len(lot))
        self.assertEqual(told(fewest), told(lot), lot)
        self.assertIsNone(topic_between(fewest, lot))
        self.assertEqual(idle_wishes(fewest), [])
        return fewest

    def check_none_fewer(self, lot):
        fewest = self.check_fewest(lot)
        if fewest:
            self.assertFalse(can_be_told(told(lot), (), len(fewest) - 1), (lot, fewest))

    def test_small_lots_one_by_one(self):
        pairs = [(wish, way) for wish in ("#", "+", "+/#", "a", "a/#", "a/+", "a/+/#") for way in WAYS[:2]]
        for many in range(4):
            for lot in combinations(pairs, many):
                if is_lot(lot):
                    self.check_none_fewer(lot)

    def test_lots(self):
        dice = random.Random(5)
        for _ in range(300):
            self.check_none_fewer(some_lot(dice, 5, some_short_wish))
        for _ in range(60):
            self.check_none_fewer(some_lot(dice, 5))

    def test_greater_lots(self):
        dice = random.Random(6)
        for _ in range(600):
            self.check_fewest(some_lot(dice, 12))
            self.check_fewest(some_lot(dice, 12, some_short_wish))

    def test_rows_of_steps(self):
        stems = ("+", "+/+", "+/+/+", "+/+/+/+", "+/+/+/+/+")
        for lot, many in (
            (tuple((stem, "light") for stem in stems), 1), (tuple((stem, "light") for stem in stems[1:]), 1),
            (tuple((stem, "light") for stem in stems[:4]), 4), (tuple((stem, "light") for stem in stems[3:]), 1),
            ((("#", "light"), ("+", "paired")), 2), ((("#", "light"), ("+/+/#", "paired")), 2),
            ((("#", "light"), ("a/#", "paired"), ("a/+", "light")), 2),
            ((("+/+/#", "light"), ("a", "light"), ("a/#", "light")), 2),
            ((("a", "paired"), ("a/#", "light"), ("a/+/+", "paired")), 3), ((("a/b/c/d/e", "light"),), 1), ((), 0),
            ((("a/b/c/d", "light"), ("a/b/c/d/e", "light")), 2), ((("a/b/c/d", "light"), ("a/b/c/d/+", "light")), 1),
        ):
            self.assertEqual(len(self.check_fewest(lot)), many, lot)

    def test_twelve_wishes(self):
        self.assertEqual(fewest_wishes(TWELVE), TWELVE)
        self.assertEqual(self.check_fewest((("+", "light"),) + TWELVE[:11]), (("+", "light"),))


class Arguments(ArgumentChecks, unittest.TestCase):
    def test_wrong_arguments(self):
        lots = (LOT[::-1], list(LOT), TWELVE + (("m", "light"),), (("a", "light"), ("a", "paired")), "a")
        self.check_arguments(way_in, (LOT, "a"), (InvalidLot, InvalidTopic), (lots, ("+", "#", "")))
        self.check_arguments(topic_between, (LOT, ()), (InvalidLot, InvalidLot), (lots, lots))
        for function in (idle_wishes, fewest_wishes):
            self.check_arguments(function, (LOT,), (InvalidLot,), (lots,))


if __name__ == "__main__":
    unittest.main()
