"""[22], [65], and of [3] that there is a closed lot just where there is no bad run."""

import unittest

from heardonce.allruns import has_sign, state_behind
from heardonce.badruns import shortest_bad
from heardonce.closedlots import closed_lot, is_closed_lot
from heardonce.errors import InvalidSign, InvalidState, TooMany
from heardonce.worlds import fresh_world
from tests.arguments import ArgumentChecks
from tests.states import AT_EDGES, GIVE, OTHER, SIGNS, fresh_state, small_states, state_of
from tests.values import ODD_VALUES, bent, replaced

NONE = (0,) * 6
ANN = fresh_world((1, True, True), ("ann",))
STATE = (ANN, (1, 0, 0, 0, 0, 0), (GIVE,))


class ClosedLots(unittest.TestCase):
    def check_lot(self, one, sign, lot):
        """Judge a closed lot state by state, by another telling."""
        known = one.lot()
        self.assertIsInstance(lot, tuple)
        self.assertEqual(list(lot), sorted(set(lot)))
        self.assertIn(one.state(), lot)
        for state in lot:
            model = known[state]
            self.assertFalse(model.shows(sign))
            self.assertTrue(all(after.state() in lot for after in model.ways().values()))

    def test_small_states(self):
        found = set()
        for one in small_states():
            if len(one.lot()) > 300:
                continue
            for sign in SIGNS:
                lot = closed_lot(one.state(), sign)
                self.assertIs(lot is None, one.shortest(sign) is not None)
                self.assertIs(lot is None, shortest_bad(one.state(), sign) is not None)
                found.add((sign, lot is None))
                if lot is not None:
                    self.check_lot(one, sign, lot)
                    self.assertLessEqual(len(lot), 300)
                    self.assertIs(is_closed_lot(one.state(), sign, lot), True)
        self.assertEqual(len(found), 6)

    def test_alone(self):
        state = (ANN, NONE, ())
        for sign in SIGNS:
            self.assertEqual(closed_lot(state, sign), (state,))

    def test_at_the_limit(self):
        for sign in ("more", "less"):
            lot = closed_lot(state_of(300), sign)
            self.assertEqual(len(lot), 300)
            self.assertIs(is_closed_lot(state_of(300), sign, lot), True)
        self.assertIsNone(closed_lot(state_of(300), "stuck"))

    def test_above_the_limit(self):
        for many in (301, 1000, 1001):
            for sign in SIGNS:
                with self.assertRaises(TooMany) as caught:
                    closed_lot(state_of(many), sign)
                self.assertEqual(caught.exception.limit, 300)


class IsClosedLot(unittest.TestCase):
    def test_what_is_none(self):
        lot = closed_lot(STATE, "more")
        self.assertIs(is_closed_lot(STATE, "more", lot), True)
        for at, state in enumerate(lot):
            self.assertIs(is_closed_lot(STATE, "more", lot[:at] + lot[at + 1:]), False)
            self.assertIs(is_closed_lot(STATE, "more", lot[:at] + (state,) + lot[at:]), False)
            self.assertIs(is_closed_lot(STATE, "more", lot[:at] + lot[at + 1:] + (state,)), at == len(lot) - 1)
        self.assertIs(is_closed_lot(STATE, "more", lot[::-1]), False)
        self.assertIs(is_closed_lot(STATE, "more", ()), False)

    def test_a_state_with_the_sign(self):
        lot = closed_lot(STATE, "more")
        self.assertIs(is_closed_lot(STATE, "stuck", lot), False)
        self.assertIs(is_closed_lot(STATE, "less", lot), True)
        # It stays out of all runs, but it stands in the lot.
        stuck = state_behind(STATE, (GIVE, ("lose", "ann", "coming", 0)))
        calm = (ANN, NONE, (GIVE,))
        safe = closed_lot(calm, "stuck")
        self.assertIs(is_closed_lot(calm, "stuck", safe), True)
        self.assertIs(is_closed_lot(calm, "stuck", tuple(sorted(safe + (stuck,)))), False)
        self.assertIs(is_closed_lot(calm, "more", tuple(sorted(safe + (stuck,)))), True)

    def test_worlds_of_other_names(self):
        # All is the same in both worlds but for who has heard the word: the one to whom it was due, or another one.
        states = []
        for names in (("abe", "ann"), ("ann", "zoe")):
            clients = tuple((name, ((), ()), ((), ()), heard) for name, heard in zip(names, ((), (("t", 1),))))
            world = fresh_world((1, True, True), names)
            states.append((replaced(replaced(world, (1,), clients), (4,), (("ann", "paired", "t", 1),)), NONE, ()))
        for sign in ("more", "less"):
            self.assertEqual([has_sign(state, sign) for state in states], [False, True])
            self.assertIs(is_closed_lot(states[0], sign, (states[0],)), True)
            self.assertIs(is_closed_lot(states[0], sign, tuple(states)), False)
        self.assertIs(is_closed_lot(states[0], "stuck", tuple(states)), True)

    def test_worlds_that_are_the_same_but_for_one_part(self):
        clients = (("ann", ((), ()), ((), ()), (("t", 1),)),)
        word = ("ann", "paired", "t", 1)
        calm = replaced(replaced(ANN, (1,), clients), (4,), (word,))
        for path, part, signs in (
            ((4,), (), ("more",)), ((4,), (word, word), ("less",)), ((5,), (word,), ("less",)),
            ((6,), (word,), ("more",)), ((1, 0, 3), (), ("less",)), ((1, 0, 3), (("t", 1),) * 2, ("more",)),
        ):
            states = ((calm, NONE, ()), (replaced(calm, path, part), NONE, ()))
            for sign in ("more", "less"):
                self.assertIs(is_closed_lot(states[0], sign, tuple(sorted(states))), sign not in signs)

    def test_without_the_state_itself(self):
        calm = (ANN, NONE, (GIVE,))
        rest = (ANN, NONE, ())
        lot = closed_lot(rest, "more")
        self.assertIs(is_closed_lot(rest, "more", lot), True)
        self.assertIs(is_closed_lot(calm, "more", lot), False)

    def test_more_than_is_needed(self):
        other = closed_lot((fresh_world((2, False, False), ("bob", "cid")), (0, 0, 0, 0, 1, 0), ()), "more")
        lot = tuple(sorted(closed_lot(STATE, "more") + other))
        self.assertIs(is_closed_lot(STATE, "more", lot), True)
        self.assertIs(is_closed_lot(other[-1], "more", lot), True)
        # A state more, whose steps lead out of the lot.
        self.assertIs(is_closed_lot(STATE, "more", tuple(sorted(lot + ((ANN, NONE, (OTHER,)),)))), False)

    def test_lengths(self):
        rest = (ANN, NONE, ())
        letters = "abcdefghijklmnopqrstuvwxyz"
        names = sorted(one + other for one in letters for other in letters)
        # None of these plans can begin, so that these states have no steps.
        others = tuple((ANN, NONE, (("unwish", name, "a"),)) for name in names)
        self.assertIs(is_closed_lot(rest, "more", (rest,) + others[:299]), True)
        self.assertIs(is_closed_lot(rest, "more", (rest,) + others[:300]), False)
        self.assertIs(is_closed_lot(others[0], "stuck", others[:300]), True)

    def test_however_many_states_there_are(self):
        self.assertEqual(len(AT_EDGES), 4)
        for many in (301, 1001):
            self.assertIs(is_closed_lot(state_of(many), "more", (state_of(many),)), False)
        one = fresh_state(*AT_EDGES[301])
        self.assertIs(is_closed_lot(one.state(), "more", tuple(sorted(one.lot()))), False)

    def test_any_value(self):
        lot = closed_lot((ANN, NONE, (GIVE,)), "more")
        for value in list(ODD_VALUES) + [list(lot), lot[0], lot + (0,), (lot,), lot + (lot[-1][:2],)]:
            self.assertIs(is_closed_lot((ANN, NONE, (GIVE,)), "more", value), False, value)
        for value in bent((lot[0],)):
            self.assertIs(is_closed_lot(lot[0], "more", value), False, value)
        bools = (lot[0][0], (False,) * 6, lot[0][2])
        self.assertEqual(bools, lot[0])
        self.assertIs(is_closed_lot((ANN, NONE, (GIVE,)), "more", (bools,) + lot[1:]), False)


class Arguments(ArgumentChecks, unittest.TestCase):
    def test_wrong_arguments(self):
        states = ((ANN, NONE), (ANN, (4,) * 6, ()), (ANN, NONE, (0,)), ANN)
        signs = ("", "More", "same", ("less",))
        self.check_arguments(closed_lot, (STATE, "more"), (InvalidState, InvalidSign), (states, signs))
        right = (STATE, "more", ())
        self.check_arguments(is_closed_lot, right, (InvalidState, InvalidSign, None), (states, signs, ()))

    def test_wrong_signs_ahead_of_too_many(self):
        self.check_error(closed_lot, (state_of(301), "odd"), InvalidSign)


if __name__ == "__main__":
    unittest.main()
