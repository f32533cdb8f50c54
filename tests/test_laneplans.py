"""[33], [73], and of [36] and [37] how letters grow old."""

import random
import unittest
from itertools import product

from heardonce.errors import InvalidLane, InvalidPlan, InvalidTopic
from heardonce.laneplans import dead_rings, is_lane_plan, lanes_met, old_way
from tests.arguments import ArgumentChecks
from tests.houses import NAMES, WISHES
from tests.model import meets
from tests.values import ODD_VALUES, bent, replaced

PLAN = (
    ("dead", (), 9, None, None, 1), ("fast", ("a/#", "b"), 2, 3, "dead", 2), ("loop", ("a/+",), 5, 2, "loop", 1),
)


def plan_of(lives, deads):
    """A plan of as many lanes as there are lives, each dead in the lane with an index, or in none."""
    return tuple(
        (NAMES[at], (), 1, life, None if dead is None else NAMES[dead], 1)
        for at, (life, dead) in enumerate(zip(lives, deads))
    )


def old_way_told(plan, lane):
    """The old way of a lane, tick by tick."""
    lanes = {one[0]: one for one in plan}
    turn, since, deaths, layings = 0, 0, [], [(lane, 0)]
    for _ in range(1000):
        turn += 1
        # Lane by lane in the order of the plan, and so perhaps more than one in a tick.
        for name in sorted(lanes):
            life, dead = lanes[name][3:5]
            if name == lane and life is not None and turn - since >= life:
                if lane in deaths or dead is None:
                    return layings, ("gone", turn)
                deaths.append(lane)
                lane, since = dead, turn
                layings.append((lane, turn))
    return layings, ("lies", lane)


def rings_told(plan):
    """All rings by `dead`, by looking at each row of unlike lanes that begins with its least name."""
    deads = {lane[0]: lane[4] for lane in plan}
    found = []
    for first in deads:
        row = [first]
        while deads[row[-1]] is not None and len(row) <= len(deads):
            row.append(deads[row[-1]])
        if first in row[1:]:
            ring = row[:row.index(first, 1)]
            if first == min(ring):
                found.append(tuple(ring))
    return sorted(found)


def some_plan(dice):
    many = dice.randrange(1, 7)
    names = sorted(dice.sample(NAMES, many))
    return tuple(
        (name, tuple(sorted(dice.sample(WISHES, dice.randrange(5)))), dice.randrange(1, 13),
         dice.choice((None, 1, 2, 3, 20)), dice.choice(names + names + [None]), dice.randrange(1, 6))
        for name in names
    )


class Plans(unittest.TestCase):
    def test_plans(self):
        for plan in (PLAN, PLAN[:1], PLAN[:2], PLAN[2:], plan_of((1,) * 6, range(6))):
            self.assertIs(is_lane_plan(plan), True)

    def test_other_kinds(self):
        fine = [replaced(PLAN, path, None) for path in ((1, 3), (1, 4), (2, 3), (2, 4))]
        for value in bent(PLAN) + list(ODD_VALUES) + [(), list(PLAN), PLAN[0], (PLAN,)]:
            self.assertIs(is_lane_plan(value), value in fine, value)
        for value in fine:
            self.assertIs(is_lane_plan(value), True)

    def test_bounds(self):
        for path, value, is_one in (
            ((1, 2), 1, True), ((1, 2), 12, True), ((1, 2), 13, False), ((1, 2), 0, False), ((1, 2), None, False),
            ((1, 3), 1, True), ((1, 3), 20, True), ((1, 3), 21, False), ((1, 3), 0, False), ((1, 3), True, False),
            ((1, 5), 1, True), ((1, 5), 5, True), ((1, 5), 6, False), ((1, 5), 0, False), ((1, 5), None, False),
            ((1, 4), "fast", True), ((1, 4), "loop", True), ((1, 4), "slow", False), ((1, 4), "", False),
            ((1, 0), "dead", False), ((1, 0), "loop", False), ((1, 0), "e", True), ((1, 0), "z", False),
            ((1, 0), "", False), ((0, 0), "a", False), ((2, 0), "z", False), ((1, 1), (), True),
            ((1, 1), ("b", "a/#"), False),
            ((1, 1), ("#", "#"), False), ((1, 1), ("#", "+", "a", "b"), True),
            ((1, 1), ("#", "+", "a", "b", "c"), False), ((1, 1), ("#/a",), False), ((1, 1), ["b"], False),
        ):
            self.assertIs(is_lane_plan(replaced(PLAN, path, value)), is_one, (path, value))

    def test_names(self):
        self.assertIs(is_lane_plan(PLAN[::-1]), False)
        self.assertIs(is_lane_plan(PLAN + PLAN[2:]), False)
        self.assertIs(is_lane_plan(PLAN[1:]), False)

    def test_at_most_six_lanes(self):
        self.assertIs(is_lane_plan(plan_of((1,) * 7, range(7))), False)

    def test_lengths_of_lanes(self):
        for lane in (PLAN[0][:5], PLAN[0] + (1,), list(PLAN[0])):
            self.assertIs(is_lane_plan((lane,)), False)


class Met(unittest.TestCase):
    def test_beside_another_telling(self):
        dice = random.Random(33)
        for _ in range(100):
            plan = some_plan(dice)
            for topic in ("a", "b", "c", "a/b", "b/a", "a/b/c", "abcdef/a/b/c/d"):
                told = [lane[0] for lane in plan if any(meets(topic, wish) for wish in lane[1])]
                self.assertEqual(lanes_met(plan, topic), told)

    def test_once_for_several_wishes(self):
        plan = (("a", ("#", "+", "a"), 1, None, None, 1), ("b", (), 1, None, None, 1))
        self.assertEqual(lanes_met(plan, "a"), ["a"])


class Rings(unittest.TestCase):
    def test_all_plans_of_four_lanes(self):
        for many in range(1, 5):
            for deads in product((None,) + tuple(range(many)), repeat=many):
                plan = plan_of((1,) * many, deads)
                self.assertEqual(dead_rings(plan), rings_told(plan))

    def test_none_one_and_several(self):
        for deads, rings in (
            ((None,) * 6, []), ((1, 2, 3, 4, 5, None), []), ((0,) + (None,) * 5, ["ann"]),
            ((1, 2, 3, 4, 5, 0), ["ann bob cid dan eve fay"]), ((5, 0, 1, 2, 3, 4), ["ann fay eve dan cid bob"]),
            ((1, 0, 3, 2, 5, 4), ["ann bob", "cid dan", "eve fay"]), ((1, 2, 1, 3, 3, 4), ["bob cid", "dan"]),
            (range(6), list(NAMES[:6])), ((3, 5, 0, 2, 1, 1), ["ann dan cid", "bob fay"]),
        ):
            told = dead_rings(plan_of((None,) * 6, tuple(deads)))
            self.assertEqual(told, [tuple(ring.split()) for ring in rings])


class OldWays(unittest.TestCase):
    def test_beside_another_telling(self):
        dice = random.Random(73)
        ends = set()
        for _ in range(300):
            plan = some_plan(dice)
            for lane in plan:
                told = old_way(plan, lane[0])
                self.assertEqual(told, old_way_told(plan, lane[0]))
                ends.add(told[1][0])
        self.assertEqual(ends, {"gone", "lies"})

    def test_without_life(self):
        self.assertEqual(old_way(plan_of((None,), (None,)), "ann"), ([("ann", 0)], ("lies", "ann")))
        self.assertEqual(old_way(plan_of((None,), (0,)), "ann"), ([("ann", 0)], ("lies", "ann")))

    def test_without_dead(self):
        for life in (1, 2, 20):
            self.assertEqual(old_way(plan_of((life,), (None,)), "ann"), ([("ann", 0)], ("gone", life)))

    def test_rings(self):
        self.assertEqual(old_way(plan_of((4,), (0,)), "ann"), ([("ann", 0), ("ann", 4)], ("gone", 8)))
        plan = plan_of((2, 3, 5), (1, 2, 1))
        self.assertEqual(old_way(plan, "ann"), (
            [("ann", 0), ("bob", 2), ("cid", 5), ("bob", 10)], ("gone", 13),
        ))
        self.assertEqual(old_way(plan, "cid"), ([("cid", 0), ("bob", 5), ("cid", 8)], ("gone", 13)))
        six = plan_of((20,) * 6, (1, 2, 3, 4, 5, 0))
        self.assertEqual(old_way(six, "cid")[1], ("gone", 140))
        self.assertEqual(len(old_way(six, "cid")[0]), 7)

    def test_a_ring_that_is_left_for_no_lane(self):
        plan = plan_of((1, None), (1, None))
        self.assertEqual(old_way(plan, "ann"), ([("ann", 0), ("bob", 1)], ("lies", "bob")))


class Arguments(ArgumentChecks, unittest.TestCase):
    def test_wrong_arguments(self):
        plans = (PLAN[1:], PLAN[::-1], list(PLAN), (), PLAN[0])
        lanes = ("", "slow", "Dead", ("dead",), "dead ")
        self.check_arguments(lanes_met, (PLAN, "a"), (InvalidPlan, InvalidTopic), (plans, ("a/+", "#", "")))
        self.check_arguments(dead_rings, (PLAN,), (InvalidPlan,), (plans,))
        self.check_arguments(old_way, (PLAN, "dead"), (InvalidPlan, InvalidLane), (plans, lanes))

    def test_new_lists(self):
        for function, more in ((lanes_met, ("a/b",)), (dead_rings, ())):
            function(PLAN, *more).clear()
            self.assertTrue(function(PLAN, *more))


if __name__ == "__main__":
    unittest.main()
