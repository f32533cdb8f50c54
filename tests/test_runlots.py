"""[21], [63]: the lots of states."""

import random
import unittest

from heardonce.allruns import state_steps
from heardonce.errors import InvalidState, TooMany
from heardonce.runlots import count_states, ends_of, layers_of
from heardonce.worlds import fresh_world
from tests.arguments import ArgumentChecks
from tests.runs import NAMES
from tests.states import FOUR_MANNERS, GIVE, fresh_state, small_states, some_state, state_of

ANN = fresh_world((1, True, True), ("ann",))
NONE = (0,) * 6


class Lots(unittest.TestCase):
    def check_lot(self, one):
        state, layers = one.state(), one.layers()
        self.assertEqual(count_states(state), sum(map(len, layers)))
        self.assertEqual(layers_of(state), tuple(map(len, layers)))
        ends = [end for layer in layers for end, model in layer.items() if not model.ways()]
        self.assertEqual(ends_of(state), sorted(ends))

    def test_small_states(self):
        for one in small_states():
            self.check_lot(one)

    def test_behind_rows_of_events(self):
        dice = random.Random(63)
        many = 0
        for seed in range(120):
            one = some_state(dice, FOUR_MANNERS[seed % 4], dice.randrange(12), 1, NAMES[:1 + seed % 2])
            one.plan = one.plan[:1]
            for word in dice.sample(sorted(one.harm), 4):
                one.harm[word] = 0
            try:
                if count_states(one.state()) > 120:
                    continue
            except TooMany:
                continue
            self.check_lot(one)
            many += 1
        self.assertGreater(many, 20)

    def test_alone(self):
        state = (ANN, NONE, ())
        self.assertEqual([count_states(state), layers_of(state), ends_of(state)], [1, (1,), [state]])

    def test_unlike_harm_and_plans_are_unlike_states(self):
        state = (ANN, (0, 0, 0, 0, 3, 0), ())
        self.assertEqual(layers_of(state), (1, 1, 1, 1))
        self.assertEqual(ends_of(state), [(ANN, NONE, ())])
        plan = (("wish", "ann", "a", "light"),) * 3
        self.assertEqual(count_states((ANN, NONE, plan)), 4)

    def test_ends_ascend(self):
        ends = ends_of(state_of(300))
        self.assertEqual(ends, sorted(ends))
        self.assertGreater(len(ends), 3)
        self.assertTrue(all(state_steps(end) == [] for end in ends))

    def test_new_lists(self):
        ends = ends_of((ANN, NONE, ()))
        ends.append(0)
        self.assertEqual(len(ends_of((ANN, NONE, ()))), 1)


class Limits(unittest.TestCase):
    def check_too_many(self, state):
        for function in (count_states, layers_of, ends_of):
            with self.assertRaises(TooMany) as caught:
                function(state)
            self.assertEqual(caught.exception.limit, 1000)

    def test_at_the_limit(self):
        state = state_of(1000)
        self.assertEqual(count_states(state), 1000)
        self.assertEqual(sum(layers_of(state)), 1000)
        self.assertTrue(ends_of(state))
        lot = fresh_state((3, True, True), ("ann",), state[1], state[2]).lot()
        self.assertEqual(len(lot), 1000)

    def test_above_the_limit(self):
        self.check_too_many(state_of(1001))
        many = fresh_world((8, False, False), ("ann", "bob", "cid", "dan"))
        self.check_too_many((many, (3,) * 6, (GIVE, GIVE, GIVE)))


class Arguments(ArgumentChecks, unittest.TestCase):
    def test_wrong_arguments(self):
        wrong = ((ANN, NONE), (ANN, (0,) * 5, ()), (ANN, NONE, [GIVE]), ANN)
        for function in (count_states, layers_of, ends_of):
            self.check_arguments(function, ((ANN, NONE, (GIVE,)),), (InvalidState,), (wrong,))


if __name__ == "__main__":
    unittest.main()
