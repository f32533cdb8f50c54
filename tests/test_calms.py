"""[23], [66], and of [3] what calms worlds in manners that are ahead and careful."""

import random
import unittest
from itertools import product

from heardonce.badruns import is_bad_run, shortest_bad
from heardonce.calms import calmed, witness
from heardonce.errors import CannotHappen, InvalidManner, InvalidSign, InvalidWorld
from heardonce.events import can_happen, happened_all
from heardonce.worlds import faults_of, fresh_world, is_at_rest
from tests.arguments import ArgumentChecks
from tests.model import Impossible, Model
from tests.runs import HARSH, NAMES, some_run
from tests.states import FOUR_MANNERS, GIVE, HARMS, SIGNS, StateModel
from tests.values import replaced

ANN = fresh_world((1, True, True), ("ann",))
MANNERS = tuple(product(range(1, 9), (False, True), (False, True)))


def first_calm(model):
    """The first event of those that calm a model, and the model behind it."""
    names = sorted(model.names)
    sides = ("coming", "going")
    for events in (
        [("arrive", name, side) for name in names for side in sides], [("pass", name) for name in names],
        [("again", name, side, number) for name in names for side in sides for number in range(8)],
    ):
        for event in events:
            try:
                return event, model.behind(event)
            except Impossible:
                continue
    return None


def calmed_told(model):
    events = []
    told = first_calm(model)
    while told is not None and len(events) < 200:
        event, model = told
        events.append(event)
        told = first_calm(model)
    return model.world(), tuple(events)


class Calmed(unittest.TestCase):
    def test_beside_another_telling(self):
        dice = random.Random(66)
        left = set()
        for seed in range(160):
            manner = dice.choice((1, 2, 3, 8)), *FOUR_MANNERS[seed % 4][1:]
            _, model = some_run(dice, manner, dice.randrange(15, 30), HARSH, NAMES[:1 + seed % 3])
            told = calmed_told(model)
            self.assertEqual(calmed(model.world()), told)
            left.add((manner[1], is_at_rest(told[0])))
            # Each event of those done can happen, one behind the other.
            self.assertEqual(happened_all(model.world(), told[1]), told[0])
        self.assertIn((True, True), left)
        self.assertIn((False, False), left)

    def test_no_faults_if_ahead_and_careful(self):
        dice = random.Random(3)
        rest = 0
        for seed in range(120):
            manner = (dice.choice((1, 2, 3, 8)), True, True)
            _, model = some_run(dice, manner, dice.randrange(15, 60), HARSH, NAMES[:1 + seed % 3])
            world, _ = calmed(model.world())
            if is_at_rest(world):
                rest += 1
                self.assertEqual(faults_of(world), [])
            self.assertFalse([fault for fault in faults_of(world) if fault[-1] == "more"])
        self.assertGreater(rest, 100)

    def test_order(self):
        events = (("wish", "bob", "#", "paired"), GIVE, ("give", "bob", "marked", "b", 1))
        world = happened_all(fresh_world((2, True, True), ("ann", "bob")), events)
        self.assertEqual(calmed(world)[1][:6], (
            ("arrive", "ann", "coming"), ("arrive", "ann", "going"), ("arrive", "ann", "coming"),
            ("arrive", "ann", "going"), ("arrive", "bob", "coming"), ("arrive", "bob", "going"),
        ))
        self.assertEqual(calmed(world)[1][6], ("pass", "bob"))

    def test_again_is_last(self):
        events = (GIVE, ("lose", "ann", "coming", 0), ("wish", "bob", "#", "light"), ("give", "bob", "light", "b", 1))
        world = happened_all(fresh_world((2, True, True), ("ann", "bob")), events)
        self.assertEqual(calmed(world)[1][:5], (
            ("arrive", "bob", "coming"), ("pass", "bob"), ("arrive", "bob", "going"),
            ("again", "ann", "coming", 0), ("arrive", "ann", "coming"),
        ))

    def test_stuck(self):
        # In the log stands what no event but a stop brings back.
        events = (GIVE, ("write", "ann"), ("arrive", "ann", "coming"))
        hasty = happened_all(fresh_world((1, False, True), ("ann",)), events)
        world, done = calmed(hasty)
        self.assertFalse(is_at_rest(world))
        self.assertEqual(done, (("arrive", "ann", "going"), ("arrive", "ann", "coming"), ("arrive", "ann", "going")))
        self.assertEqual(calmed(world), (world, ()))

    def test_stuck_for_room(self):
        # No word more can be taken in, so that the word goes anew until its line is full.
        world = replaced(happened_all(ANN, (GIVE,)), (6,), (("ann", "light", "a", 0),) * 100)
        self.assertIs(can_happen(world, ("arrive", "ann", "coming")), False)
        self.assertEqual(calmed(world)[1], (("again", "ann", "coming", 0),) * 11)
        self.assertEqual(len(calmed(world)[0][3][0][1]), 12)

    def test_at_most_two_hundred(self):
        names = ("ann", "bob", "cid", "dan")
        world = fresh_world((8, True, True), names)
        waiting = (("paired", "a", 7),) * 12
        for at in range(4):
            world = replaced(world, (2, at, 2, 2), waiting)
        behind, done = calmed(world)
        self.assertEqual(len(done), 200)
        self.assertEqual(happened_all(world, done), behind)
        self.assertFalse(is_at_rest(behind))
        rest, more = calmed(behind)
        # Each of the 48 words takes five events.
        self.assertEqual(len(more), 40)
        self.assertEqual([rest[1][at][3] for at in range(4)], [(("a", 7),) * 12] * 4)
        self.assertEqual(calmed(rest), (rest, ()))


class Witnesses(unittest.TestCase):
    def test_all_manners(self):
        for manner in MANNERS:
            for sign in SIGNS:
                told = witness(manner, sign)
                can_come = sign == "stuck" or not (manner[1] and manner[2])
                self.assertIs(told is not None, can_come, (manner, sign))
                if can_come:
                    self.check_witness(manner, sign, *told)

    def check_witness(self, manner, sign, state, run):
        world, harm, plan = state
        names = tuple(client[0] for client in world[1])
        self.assertEqual(world, fresh_world(manner, names))
        self.assertIsInstance(run, tuple)
        self.assertLessEqual(len(run), 60)
        self.assertIs(is_bad_run(state, sign, run), True)
        one = StateModel(Model(manner, names), dict(zip(HARMS, harm)), plan)
        for event in run:
            one = one.behind(event)
        self.assertTrue(one.shows(sign))

    def test_the_same_harm_in_manners_that_are_ahead_and_careful(self):
        for ring, other, sign in product((1, 2, 3), ((1, False, True), (1, True, False)), ("more", "less")):
            (_, harm, plan), run = witness(other, sign)
            state = (fresh_world((ring, True, True), ("ann",)), harm, plan)
            self.assertIs(is_bad_run(state, sign, run), False)
            # With two words, and three harms, there are too many runs to go through.
            if len(plan) == 1:
                self.assertIsNone(shortest_bad(state, sign))


class Arguments(ArgumentChecks, unittest.TestCase):
    def test_wrong_arguments(self):
        self.check_arguments(calmed, (ANN,), (InvalidWorld,), ((ANN[:6], ANN + (0,), list(ANN)),))
        manners = ((0, True, True), (9, True, True), (1, True), (1, 1, True), [1, True, True])
        signs = ("", "More", "same", ("less",))
        self.check_arguments(witness, ((1, True, True), "more"), (InvalidManner, InvalidSign), (manners, signs))

    def test_runs_can_not_go_on_elsewhere(self):
        with self.assertRaises(CannotHappen):
            happened_all(ANN, witness((1, True, True), "stuck")[1] * 2)


if __name__ == "__main__":
    unittest.main()
