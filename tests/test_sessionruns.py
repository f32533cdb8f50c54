"""[30], [31], [32], [71], and of [3] what becomes of each word that comes to a session."""

import random
import unittest
from collections import Counter

from heardonce.errors import CannotStep, InvalidHouse, InvalidNames, InvalidSteps
from heardonce.sessionhouses import is_house
from heardonce.sessionruns import fate_counts, fates_of, house_course, told_in
from tests.arguments import ArgumentChecks
from tests.houses import NAMES, House, some_house, some_steps

TERMS = (3, 2, "elder", ("light", "b", 5))
OPEN, WISH = ("open", "ann", False, TERMS), ("wish", "ann", "#", "paired")
FUNCTIONS = (house_course, told_in, fates_of)
EMPTY = (0, ())


class Runs(unittest.TestCase):
    def test_beside_another_telling(self):
        dice = random.Random(71)
        fates = Counter()
        for seed in range(80):
            names = NAMES[:2 + seed % 4]
            house = some_house(dice, names)
            steps, told = some_steps(dice, house, dice.randrange(75), names)
            steps = steps[:60]
            told, houses, said = House(house), [house], []
            for step in steps:
                told = told.stepped(step)
                houses.append(told.house())
                said.append(tuple(told.said))
            self.assertEqual(house_course(house, steps), houses)
            self.assertEqual(told_in(house, steps), said)
            self.assertEqual(fates_of(house, steps), told.fates())
            fates.update(fate[5] for fate in told.fates())
            self.check_counts(house, steps, told.fates())
            self.check_words(house, steps)
        self.assertEqual(set(fates), {"handed", "room", "end", "waits"})

    def check_counts(self, house, steps, fates):
        for name in NAMES:
            counts = Counter(fate[5] for fate in fates if fate[1] == name)
            told = tuple(counts[fate] for fate in ("handed", "room", "end", "waits"))
            self.assertEqual(fate_counts(house, steps, name), told)

    def check_words(self, house, steps):
        """Each word, those in the house too, is handed out once, or dropped once with its reason, or waits."""
        came = [(session[0], word[1:]) for session in house[1] for word in session[4]]
        came += [(fate[1], fate[2:5]) for fate in fates_of(house, steps)]
        went = [(session[0], word[1:]) for session in house_course(house, steps)[-1][1] for word in session[4]]
        for said in told_in(house, steps):
            for one in said:
                if one[0] == "handed":
                    went.append((one[1], one[3:]))
                elif one[0] == "dropped":
                    self.assertIn(one[2], ("room", "end"))
                    went.append((one[1], one[4:]))
        self.assertEqual(Counter(came), Counter(went))

    def test_no_steps(self):
        house = (4, (("ann", "open", TERMS, (), ((1, "light", "a", 1),)),))
        self.assertEqual(house_course(house, ()), [house])
        self.assertEqual(told_in(house, ()), [])
        self.assertEqual(fates_of(house, ()), [])
        self.assertEqual(fate_counts(house, (), "ann"), (0, 0, 0, 0))

    def test_two_names(self):
        steps = (
            OPEN, WISH, ("open", "bob", False, (0, 1, "newer", ("paired", "a", 9))), ("wish", "bob", "a", "marked"),
            ("tell", "paired", "a", 1), ("tell", "light", "a", 2), ("take", "bob", 12), ("break", "bob"),
        )
        self.assertEqual(fates_of(EMPTY, steps), [
            (4, "ann", "paired", "a", 1, "room", 7), (4, "bob", "marked", "a", 1, "handed", 6),
            (5, "ann", "light", "a", 2, "waits", 8), (5, "bob", "light", "a", 2, "room", 5),
            (7, "ann", "paired", "a", 9, "waits", 8),
        ])
        self.assertEqual(fate_counts(EMPTY, steps, "ann"), (0, 1, 0, 2))
        self.assertEqual(fate_counts(EMPTY, steps, "bob"), (1, 1, 0, 0))
        self.assertEqual(fate_counts(EMPTY, steps, "cid"), (0, 0, 0, 0))

    def test_last_words(self):
        steps = (OPEN, WISH, ("open", "ann", False, TERMS), ("break", "ann"))
        self.assertEqual(fates_of(EMPTY, steps), [
            (2, "ann", "light", "b", 5, "waits", 4), (3, "ann", "light", "b", 5, "waits", 4),
        ])
        # By one step a last word comes, and is dropped at its session's end.
        fresh = steps[:2] + (("open", "ann", True, TERMS),)
        self.assertEqual(fates_of(EMPTY, fresh), [(2, "ann", "light", "b", 5, "end", 2)])
        self.assertEqual(fate_counts(EMPTY, fresh, "ann"), (0, 0, 1, 0))

    def test_words_in_the_house_ahead_of_the_first_step(self):
        house = (4, (("ann", "open", TERMS, (("#", "paired"),), ((1, "light", "a", 1), (1, "light", "a", 1))),))
        steps = (("tell", "light", "a", 1), ("take", "ann", 1), ("turn",))
        self.assertEqual(fates_of(house, steps), [(0, "ann", "light", "a", 1, "waits", 3)])
        self.assertEqual(told_in(house, steps)[:2], [
            (("dropped", "ann", "room", 1, "light", "a", 1),), (("handed", "ann", 1, "light", "a", 1),),
        ])
        self.assertEqual(fates_of(house, steps + (("take", "ann", 1),)), [(0, "ann", "light", "a", 1, "handed", 3)])

    def test_alike_words(self):
        tell = ("tell", "light", "a", 1)
        steps = (OPEN, WISH, tell, tell, tell, ("take", "ann", 1), tell)
        self.assertEqual([fate[5:] for fate in fates_of(EMPTY, steps)], [
            ("room", 4), ("handed", 5), ("waits", 7), ("waits", 7),
        ])

    def test_first_step_that_can_not_be_done(self):
        steps = (OPEN, WISH, ("take", "ann", 1))
        for at in range(4):
            bad = steps[:at] + (("shut", "bob"),) + steps[at:]
            for function in FUNCTIONS:
                with self.assertRaises(CannotStep):
                    function(EMPTY, bad)
            with self.assertRaises(CannotStep):
                fate_counts(EMPTY, bad, "ann")

    def test_sixty_steps(self):
        turns = (("turn",),) * 60
        self.assertEqual(house_course(EMPTY, turns)[-1], (60, ()))
        self.assertEqual(told_in(EMPTY, turns), [()] * 60)
        for function in FUNCTIONS:
            function(EMPTY, turns)
            with self.assertRaises(InvalidSteps):
                function(EMPTY, turns + turns[:1])
        with self.assertRaises(InvalidSteps):
            fate_counts(EMPTY, turns + turns[:1], "ann")

    def test_houses(self):
        self.assertTrue(all(is_house(house) for house in house_course(EMPTY, (OPEN, WISH, ("turn",)))))


class Arguments(ArgumentChecks, unittest.TestCase):
    def test_wrong_arguments(self):
        houses = ((0,), (-1, ()), [0, ()], (0, (OPEN,)))
        rows = ((OPEN, ("turn", 0)), [OPEN], OPEN, (list(OPEN),), (("turn",),) * 61)
        names = ("", "Ann", "abcdefg", "an n", ("ann",))
        right = (EMPTY, (OPEN, WISH))
        for function in FUNCTIONS:
            self.check_arguments(function, right, (InvalidHouse, InvalidSteps), (houses, rows))
        self.check_arguments(
            fate_counts, right + ("ann",), (InvalidHouse, InvalidSteps, InvalidNames), (houses, rows, names),
        )

    def test_what_can_not_be_done_comes_last(self):
        self.check_error(fate_counts, (EMPTY, (WISH,), "Ann"), InvalidNames)
        self.check_error(fate_counts, (EMPTY, (WISH,), "ann"), CannotStep)
        self.check_error(told_in, (EMPTY, (WISH, ("turn", 0))), InvalidSteps)


if __name__ == "__main__":
    unittest.main()
