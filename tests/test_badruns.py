"""[22], [64], and of [3] in which manners there are bad runs."""

import random
import unittest
from itertools import product

from heardonce.allruns import has_sign, state_behind, state_steps
from heardonce.badruns import is_bad_run, least_harm, shortest_bad
from heardonce.closedlots import closed_lot, is_closed_lot
from heardonce.errors import CannotHappen, InvalidSign, InvalidState, TooMany
from heardonce.runlots import count_states
from heardonce.worlds import fresh_world
from tests.arguments import ArgumentChecks
from tests.runs import NAMES
from tests.states import FOUR_MANNERS, GIVE, OTHER, SIGNS, fresh_state, small_states, some_state, state_of
from tests.values import ODD_VALUES, bent, replaced

NONE = (0,) * 6
CAREFUL, HASTY = fresh_world((1, True, True), ("ann",)), fresh_world((1, True, False), ("ann",))
BAD = (HASTY, (0, 1, 1, 0, 0, 0), (GIVE,))
RUN = (
    GIVE, ("double", "ann", "coming", 0), ("arrive", "ann", "coming"), ("arrive", "ann", "going"),
    ("turn", "ann", "coming", 0), ("arrive", "ann", "coming"), ("arrive", "ann", "coming"),
)


def first_bad_of_all(state, sign, most):
    """The first bad run of all runs, by length and in ascending order, all of them gone through."""
    runs = [((), state)]
    for _ in range(most + 1):
        for run, behind in runs:
            if has_sign(behind, sign):
                return run
        runs = [
            (run + (event,), state_behind(behind, (event,))) for run, behind in runs for event in state_steps(behind)
        ]
    return None


class Shortest(unittest.TestCase):
    def test_beside_another_telling(self):
        found = set()
        for one in small_states():
            for sign in SIGNS:
                run = shortest_bad(one.state(), sign)
                self.assertEqual(run, one.shortest(sign), (one.state(), sign))
                self.assertTrue(run is None or is_bad_run(one.state(), sign, run))
                found.add((sign, run is None))
        self.assertEqual(len(found), 6)

    def test_beside_all_runs(self):
        for state, sign in (
            ((CAREFUL, (1, 1, 0, 0, 0, 0), (GIVE,)), "stuck"), (BAD, "more"), (BAD[:2] + ((GIVE, OTHER),), "more"),
            ((fresh_world((1, False, True), ("ann",)), (0, 0, 0, 1, 0, 1), (GIVE,)), "more"),
            ((fresh_world((1, False, True), ("ann", "bob")), (1, 0, 0, 0, 0, 1), (GIVE, OTHER)), "less"),
            ((fresh_world((1, False, True), ("ann",)), (1, 0, 0, 0, 0, 2), (GIVE,)), "stuck"),
        ):
            run = shortest_bad(state, sign)
            self.assertEqual(run, first_bad_of_all(state, sign, 8))
            self.assertIsNotNone(run)

    def test_no_bad_run(self):
        self.assertIsNone(shortest_bad((CAREFUL, NONE, (GIVE,)), "stuck"))
        self.assertIsNone(shortest_bad((CAREFUL, (0, 1, 1, 0, 0, 0), (GIVE, OTHER)), "more"))

    def test_one_word_with_harm_of_four_sorts(self):
        state = (fresh_world((1, True, True), ("a",)), (1, 1, 1, 1, 0, 0), (("give", "a", "paired", "t", 5),))
        self.assertEqual(count_states(state), 281)
        for sign in ("more", "less"):
            self.assertIsNone(shortest_bad(state, sign))
            self.assertEqual(len(closed_lot(state, sign)), 281)
            self.assertIs(is_closed_lot(state, sign, closed_lot(state, sign)), True)
        # With as many losses as are told, something is stuck at some end of the lot.
        self.assertEqual(is_bad_run(state, "stuck", shortest_bad(state, "stuck")), True)
        self.assertIsNone(closed_lot(state, "stuck"))

    def test_no_event_is_needed(self):
        state = state_behind((CAREFUL, (1, 0, 0, 0, 0, 0), (GIVE,)), (GIVE, ("lose", "ann", "coming", 0)))
        self.assertEqual(shortest_bad(state, "stuck"), ())
        self.assertEqual(least_harm(state, "stuck"), NONE)

    def test_behind_rows_of_events(self):
        dice = random.Random(64)
        for seed in range(150):
            manner = (1 + seed % 2,) + FOUR_MANNERS[seed // 2 % 4][1:]
            one = some_state(dice, manner, dice.randrange(8), 1, NAMES[:1])
            one.plan = one.plan[:1]
            for word in dice.sample(sorted(one.harm), 4):
                one.harm[word] = 0
            try:
                if count_states(one.state()) > 60:
                    continue
            except TooMany:
                continue
            for sign in SIGNS:
                run = shortest_bad(one.state(), sign)
                self.assertEqual(run, one.shortest(sign))
                self.assertEqual(least_harm(one.state(), sign), one.least_harm(sign))
                self.assertIs(run is None, closed_lot(one.state(), sign) is not None)


class LeastHarm(unittest.TestCase):
    def test_beside_all_harms(self):
        found = set()
        for one in small_states():
            for sign in SIGNS:
                harm = least_harm(one.state(), sign)
                self.assertEqual(harm, one.least_harm(sign), (one.state(), sign))
                found.add((sign, harm is None))
        self.assertEqual(len(found), 6)

    def test_more_harm_than_is_needed(self):
        stopped = fresh_world((1, False, True), ("ann",))
        for harm in ((0, 0, 0, 1, 0, 1), (0, 1, 0, 1, 0, 1), (1, 0, 0, 1, 0, 1), (0, 0, 0, 2, 0, 2)):
            state = (stopped, harm, (GIVE,))
            self.assertEqual(least_harm(state, "more"), (0, 0, 0, 1, 0, 1))
            self.assertEqual(least_harm(state, "less"), (0, 0, 0, 0, 0, 1))
        one = fresh_state((1, False, True), ("ann",), (1, 0, 0, 1, 0, 2), (GIVE,))
        for sign in SIGNS:
            self.assertEqual(least_harm(one.state(), sign), one.least_harm(sign))

    def test_same_sums_ascend(self):
        # A loss and a stop both leave the client stuck; the stop's harm is the lesser one in order.
        state = (CAREFUL, (1, 0, 0, 0, 0, 1), (GIVE,))
        self.assertEqual(least_harm(state, "stuck"), (0, 0, 0, 0, 0, 1))
        self.assertEqual(least_harm((CAREFUL, (1, 1, 0, 0, 1, 0), (GIVE,)), "stuck"), (1, 0, 0, 0, 0, 0))

    def test_at_most_four(self):
        self.assertEqual(least_harm((CAREFUL, (3, 0, 0, 0, 1, 0), (GIVE,)), "stuck"), (1, 0, 0, 0, 0, 0))
        for harm in ((3, 0, 0, 0, 2, 0), (2, 1, 1, 0, 1, 0)):
            state = (CAREFUL, harm, (GIVE,))
            self.assertLessEqual(count_states(state), 1000)
            self.check_too_many(least_harm, state, 4)
            self.assertIsNotNone(shortest_bad(state, "stuck"))
        self.check_too_many(least_harm, (CAREFUL, (0, 0, 0, 0, 3, 2), ()), 4)

    def check_too_many(self, function, state, limit):
        for sign in SIGNS:
            with self.assertRaises(TooMany) as caught:
                function(state, sign)
            self.assertEqual(caught.exception.limit, limit)

    def test_at_most_a_thousand(self):
        for function in (shortest_bad, least_harm):
            for sign in SIGNS:
                function(state_of(1000), sign)
            self.check_too_many(function, state_of(1001), 1000)
            # Both limits are passed: that of 1000 is told.
            many = fresh_world((8, False, False), ("ann", "bob"))
            self.check_too_many(function, (many, (3,) * 6, (GIVE, OTHER)), 1000)

    def test_too_many_beside_a_bad_run_at_once(self):
        state = state_of(1001)
        self.assertTrue(is_bad_run(state, "less", (GIVE, ("stop", "ann"))))
        self.check_too_many(shortest_bad, state, 1000)


class BadRuns(unittest.TestCase):
    def test_bad_runs(self):
        self.assertIs(is_bad_run(BAD, "more", RUN), True)
        self.assertIs(is_bad_run(BAD, "less", RUN), False)
        self.assertIs(is_bad_run(BAD, "stuck", RUN), False)
        self.assertIs(is_bad_run((CAREFUL,) + BAD[1:], "more", RUN), False)
        for at in range(len(RUN)):
            self.assertIs(is_bad_run(BAD, "more", RUN[:at]), False)
        self.assertIs(is_bad_run(BAD, "more", RUN + (("arrive", "ann", "going"),)), True)

    def test_bent_runs(self):
        others = (GIVE, OTHER, ("pass", "ann"), ("write", "ann"), ("stop", "")) + tuple(
            event[:2] + (side,) + event[3:] for event in RUN[1:5] for side in ("coming", "going")
        )
        for at in range(len(RUN)):
            runs = [RUN[:at] + (event,) + RUN[at + 1:] for event in others]
            runs += [RUN[:at] + RUN[at + 1:], RUN[:at] + (RUN[at],) + RUN[at:]]
            for run in runs:
                self.assertIs(is_bad_run(BAD, "more", run), self.is_bad(run), run)

    def is_bad(self, run):
        try:
            return has_sign(state_behind(BAD, run), "more")
        except CannotHappen:
            return False

    def test_any_value(self):
        for value in bent(RUN) + list(ODD_VALUES) + [list(RUN), (RUN,), RUN[:6] + (("arrive", "ann"),)]:
            self.assertIs(is_bad_run(BAD, "more", value), False, value)

    def test_lengths(self):
        # A word that was never due stays heard, whatever comes behind it.
        world = fresh_world((8, True, True), ("ann",))
        world = replaced(replaced(world, (1, 0, 3), (("z", 1),)), (2, 0, 2, 2), (("paired", "a", 7),) * 12)
        state = (world, (0, 0, 0, 0, 1, 0), ())
        coming, going = RUN[2], RUN[3]
        sixty = (("pass", "ann"), going, coming, going, coming) * 12
        self.assertEqual(len(sixty), 60)
        self.assertIs(is_bad_run(state, "more", ()), True)
        self.assertIs(is_bad_run(state, "more", sixty), True)
        self.assertIs(is_bad_run(state, "more", sixty[:59] + (("write", ""),)), True)
        self.assertIs(is_bad_run(state, "more", sixty + (("write", ""),)), False)
        self.assertIs(has_sign(state_behind(state_behind(state, sixty), (("write", ""),)), "more"), True)


class Manners(unittest.TestCase):
    def test_signs_of_manners(self):
        """No bad run where a manner is ahead and careful; in each other one some state has one."""
        found = set()
        for ahead, careful in product((False, True), repeat=2):
            for harm, plan in (
                ((0, 1, 1, 0, 0, 0), (GIVE, GIVE)), ((0, 0, 0, 1, 0, 1), (GIVE,)), ((1, 1, 0, 0, 0, 0), (GIVE,)),
                ((0, 1, 1, 0, 0, 0), (GIVE, OTHER)), ((0, 0, 0, 0, 1, 1), (GIVE, GIVE)),
            ):
                state = (fresh_world((1, ahead, careful), ("ann",)), harm, plan)
                found.update(
                    (sign, ahead, careful) for sign in ("more", "less") if shortest_bad(state, sign) is not None
                )
        others = ((False, False), (False, True), (True, False))
        self.assertEqual(found, {(sign,) + other for sign in ("more", "less") for other in others})


class Arguments(ArgumentChecks, unittest.TestCase):
    def test_wrong_arguments(self):
        states = ((CAREFUL, NONE), (CAREFUL, (4,) * 6, ()), (CAREFUL, NONE, RUN[1:2]), CAREFUL)
        signs = ("", "More", "same", ("less",))
        for function in (shortest_bad, least_harm):
            self.check_arguments(function, (BAD, "more"), (InvalidState, InvalidSign), (states, signs))
        self.check_arguments(is_bad_run, (BAD, "more", RUN), (InvalidState, InvalidSign, None), (states, signs, ()))

    def test_wrong_signs_ahead_of_too_many(self):
        for function in (shortest_bad, least_harm):
            self.check_error(function, (state_of(1001), "odd"), InvalidSign)


if __name__ == "__main__":
    unittest.main()
