"""[21], [22], [62]: states, their steps and their signs."""

import random
import unittest

from heardonce.allruns import has_sign, is_state, state_behind, state_steps
from heardonce.errors import CannotHappen, InvalidEvents, InvalidSign, InvalidState
from heardonce.events import happened, happened_all
from heardonce.worlds import fresh_world
from tests.arguments import ArgumentChecks
from tests.runs import NAMES
from tests.states import FOUR_MANNERS, GIVE, SIGNS, named_events, small_states, some_state
from tests.values import ODD_VALUES, bent, replaced

ANN = fresh_world((1, True, True), ("ann",))
NONE = (0,) * 6
STATE = (ANN, (1, 0, 2, 0, 3, 0), (GIVE, ("wish", "ann", "a/#", "light"), ("unwish", "ann", "b")))
COMING, GOING = ("arrive", "ann", "coming"), ("arrive", "ann", "going")


class States(unittest.TestCase):
    def test_states(self):
        for state in (STATE, (ANN, NONE, ()), (ANN, (3,) * 6, (GIVE,) * 3), (ANN, NONE, (("unwish", "eve", "#"),))):
            self.assertIs(is_state(state), True)

    def test_harm(self):
        for harm in (NONE[:5], NONE + (0,), (), list(NONE), None, 0):
            self.assertIs(is_state((ANN, harm, ())), False, harm)
        for at in range(6):
            for many, is_one in ((0, True), (3, True), (4, False), (-1, False), (True, False), (False, False)):
                self.assertIs(is_state((ANN, replaced(NONE, (at,), many), ())), is_one)

    def test_plan(self):
        for plan in ((GIVE,) * 4, [GIVE], GIVE, None, (GIVE[:4],), (GIVE + (1,),), (("give",),), ("give",)):
            self.assertIs(is_state((ANN, NONE, plan)), False, plan)
        others = (
            COMING, ("pass", "ann"), ("lose", "ann", "coming", 0), ("double", "ann", "coming", 0),
            ("turn", "ann", "coming", 0), ("again", "ann", "coming", 0), ("write", "ann"), ("stop", ""),
        )
        for event in others:
            self.assertIs(is_state((ANN, NONE, (GIVE, event))), False, event)

    def test_any_value(self):
        for value in bent(STATE) + list(ODD_VALUES) + [STATE[:2], STATE + (0,), list(STATE), (), (STATE,)]:
            self.assertIs(is_state(value), False, value)
        self.assertIs(is_state((fresh_world((1, True, True), ("ann", "bob"))[:6], NONE, ())), False)


class Steps(unittest.TestCase):
    def test_beside_another_telling(self):
        dice = random.Random(21)
        for many in range(60):
            one = some_state(dice, FOUR_MANNERS[many % 4], dice.randrange(30), names=NAMES[:1 + many % 3])
            start, run = one.state(), ()
            while len(run) < 60:
                state, ways = one.state(), one.ways()
                self.assertEqual(state_steps(state), sorted(ways))
                self.assertEqual(state_behind(start, run), state)
                if not ways:
                    break
                event = dice.choice(sorted(ways))
                run, one = run + (event,), ways[event]

    def test_what_is_no_step(self):
        dice = random.Random(62)
        for many in range(12):
            one = some_state(dice, FOUR_MANNERS[many % 4], 25, most_harm=1)
            state, ways = one.state(), one.ways()
            others = [event for event in named_events(one.model) if event not in ways]
            for event in others + [("give", "bob", "light", "c", 1), ("wish", "ann", "#", "light")]:
                with self.assertRaises(CannotHappen):
                    state_behind(state, (event,))
            for event, after in ways.items():
                self.assertEqual(state_behind(state, (event,)), after.state())

    def test_harm_grows_less(self):
        world = happened(ANN, GIVE)
        for at, event in enumerate((
            ("lose", "ann", "coming", 0), ("double", "ann", "coming", 0), None, ("again", "ann", "coming", 0),
            ("write", "ann"), ("stop", "ann"),
        )):
            if event is None:
                world = happened(world, ("double", "ann", "coming", 0))
                event = ("turn", "ann", "coming", 0)
            harm = replaced(NONE, (at,), 2)
            behind = state_behind((world, harm, ()), (event,))
            self.assertEqual(behind, (happened(world, event), replaced(NONE, (at,), 1), ()))
            self.assertIn(event, state_steps((world, harm, ())))
            for other in range(6):
                if other != at:
                    self.assertNotIn(event, state_steps((world, replaced(NONE, (other,), 3), ())))
            with self.assertRaises(CannotHappen):
                state_behind((world, NONE, ()), (event,))

    def test_first_event_of_a_plan(self):
        plan = (GIVE, ("wish", "ann", "#", "light"))
        self.assertEqual(state_steps((ANN, NONE, plan)), [GIVE])
        self.assertEqual(state_behind((ANN, NONE, plan), (GIVE,))[1:], (NONE, plan[1:]))
        self.assertEqual(state_behind((ANN, NONE, plan), plan)[2], ())
        with self.assertRaises(CannotHappen):
            state_behind((ANN, NONE, plan), plan[1:])
        with self.assertRaises(CannotHappen):
            state_behind((ANN, NONE, ()), (GIVE,))

    def test_first_event_of_a_plan_that_can_not_happen(self):
        # No number is free for a second word, no such wish is there, and no such name.
        given = happened(ANN, GIVE)
        self.assertEqual(state_steps((given, NONE, (GIVE,))), [COMING])
        for event in (("unwish", "ann", "a"), ("wish", "eve", "a", "light"), ("give", "eve", "light", "a", 0)):
            self.assertEqual(state_steps((ANN, NONE, (event, GIVE))), [])
            with self.assertRaises(CannotHappen):
                state_behind((ANN, NONE, (event, GIVE)), (event,))

    def test_lengths(self):
        light = (("give", "ann", "light", "a", 7),) * 3
        runs = (light[0], COMING) * 3
        self.assertEqual(state_behind((ANN, NONE, light), runs)[2], ())
        # So many events as there may be: in a world of words that wait, and come, and are answered.
        world = happened_all(fresh_world((8, True, True), ("ann",)), (("wish", "ann", "#", "paired"),) + (
            ("give", "ann", "paired", "a", 7), COMING, GOING, COMING, GOING,
        ) * 12)
        sixty = (("pass", "ann"), GOING, COMING, GOING, COMING) * 12
        self.assertEqual(len(sixty), 60)
        self.assertEqual(len(state_behind((world, NONE, ()), sixty)[0][1][0][3]), 12)
        with self.assertRaises(CannotHappen):
            state_behind((world, NONE, ()), sixty[:59] + (GOING,))
        with self.assertRaises(InvalidEvents):
            state_behind((world, NONE, ()), sixty + (("pass", "ann"),))
        with self.assertRaises(InvalidEvents):
            state_behind((ANN, NONE, ()), (GOING,) * 61)


class Signs(unittest.TestCase):
    def test_stuck(self):
        given = happened(ANN, GIVE)
        lost = happened(given, ("lose", "ann", "coming", 0))
        self.assertIs(has_sign((lost, NONE, ()), "stuck"), True)
        self.assertIs(has_sign((given, NONE, ()), "stuck"), False)
        self.assertIs(has_sign((lost, (0, 0, 0, 1, 0, 0), ()), "stuck"), False)
        self.assertIs(has_sign((lost, (3, 3, 3, 0, 0, 0), ()), "stuck"), True)
        self.assertIs(has_sign((lost, NONE, (GIVE,)), "stuck"), True)
        self.assertIs(has_sign((lost, NONE, (("give", "ann", "light", "a", 7),)), "stuck"), False)

    def test_at_rest(self):
        for state in ((ANN, NONE, ()), (ANN, (3,) * 6, ()), (ANN, NONE, (("unwish", "ann", "a"),))):
            for sign in SIGNS:
                self.assertIs(has_sign(state, sign), False)

    def test_less(self):
        hasty = fresh_world((1, False, True), ("ann",))
        given = happened(hasty, GIVE)
        self.assertIs(has_sign((given, NONE, ()), "less"), False)
        stopped = happened(given, ("stop", "ann"))
        self.assertIs(has_sign((stopped, NONE, ()), "less"), True)
        self.assertIs(has_sign((stopped, NONE, ()), "more"), False)
        self.assertIs(has_sign((stopped, NONE, (GIVE,)), "less"), True)

    def test_more(self):
        events = (GIVE, COMING, ("stop", ""), ("again", "ann", "coming", 0), COMING)
        world = happened_all(fresh_world((1, False, True), ("ann",)), events)
        self.assertIs(has_sign((world, NONE, ()), "more"), True)
        self.assertIs(has_sign((world, NONE, ()), "less"), False)
        self.assertIs(has_sign((world, NONE, ()), "stuck"), False)

    def test_beside_another_telling(self):
        seen = set()
        for small in small_states():
            for state, one in sorted(small.lot().items())[::3]:
                for sign in SIGNS:
                    self.assertIs(has_sign(state, sign), one.shows(sign), (state, sign))
                    seen.add((sign, one.shows(sign)))
        self.assertEqual(len(seen), 6)

    def test_beside_another_telling_in_greater_worlds(self):
        dice = random.Random(22)
        for many in range(60):
            one = some_state(dice, FOUR_MANNERS[many % 4], dice.randrange(40), 1, NAMES[:1 + many % 3])
            for sign in SIGNS:
                self.assertIs(has_sign(one.state(), sign), one.shows(sign), (one.state(), sign))


class Arguments(ArgumentChecks, unittest.TestCase):
    def test_wrong_arguments(self):
        states = ((ANN, NONE), (ANN, (4,) + NONE[1:], ()), (ANN, NONE, (COMING,)), ANN, (None, NONE, ()))
        self.check_arguments(state_steps, (STATE,), (InvalidState,), (states,))
        events = ((GIVE, ("give",)), [GIVE], GIVE, (("arrive", "ann", "here"),), ("give",))
        self.check_arguments(state_behind, (STATE, (GIVE,)), (InvalidState, InvalidEvents), (states, events))
        signs = ("", "More", "even", ("more",), 0)
        self.check_arguments(has_sign, (STATE, "more"), (InvalidState, InvalidSign), (states, signs))

    def test_wrong_events_ahead_of_what_is_no_step(self):
        self.check_error(state_behind, (STATE, (COMING, ("arrive",))), InvalidEvents)
        self.check_error(state_behind, (STATE, (COMING, COMING)), CannotHappen)


if __name__ == "__main__":
    unittest.main()
