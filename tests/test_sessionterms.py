"""[72], and of [3] what is told of the least room and the least keep."""

import random
import unittest

from heardonce.errors import InvalidHouse, InvalidNames, InvalidSteps
from heardonce.sessionterms import least_keep, least_room
from tests.arguments import ArgumentChecks
from tests.houses import (
    NAMES, changed_terms, least_keep_told, least_room_told, some_house, some_step, told_leaving_out,
)

TERMS = (1, 1, "elder", None)
OPEN, WISH, TURN = ("open", "ann", False, TERMS), ("wish", "ann", "#", "paired"), ("turn",)
EMPTY = (0, ())


def tells(many):
    return tuple(("tell", "paired", "a", body) for body in range(many))


def waiting_house(many, state="open", terms=(3, 12, "elder", None)):
    return (4, (("ann", state, terms, (("#", "paired"),), tuple((0, "paired", "a", at) for at in range(many))),))


class Room(unittest.TestCase):
    def test_words_told(self):
        for many in range(13):
            self.assertEqual(least_room(EMPTY, (OPEN, WISH) + tells(many), "ann"), max(1, many))
        self.assertIsNone(least_room(EMPTY, (OPEN, WISH) + tells(13), "ann"))
        self.assertEqual(least_room(EMPTY, (OPEN, WISH) + tells(9) + (("take", "ann", 5),) + tells(7), "ann"), 11)

    def test_words_that_wait_in_the_house(self):
        for many in range(13):
            self.assertEqual(least_room(waiting_house(many), (), "ann"), max(1, many))
        self.assertEqual(least_room(waiting_house(5), tells(3), "ann"), 8)
        self.assertEqual(least_room(waiting_house(5), (("take", "ann", 4),) + tells(3), "ann"), 5)
        self.assertIsNone(least_room(waiting_house(12), tells(1), "ann"))
        # By less room they would be dropped at "open", but less is not looked at.
        self.assertEqual(least_room(waiting_house(5), (("open", "ann", False, TERMS),), "ann"), 5)

    def test_a_session_that_is_not_open(self):
        self.assertEqual(least_room(waiting_house(2, 3), tells(2) + (TURN,) * 3 + tells(1), "ann"), 4)
        self.assertEqual(least_room(waiting_house(2, 1), (TURN,) + tells(5), "ann"), 2)

    def test_last_words(self):
        steps = (("open", "ann", False, (1, 9, "newer", ("light", "a", 1))), WISH, ("break", "ann"))
        self.assertEqual(least_room(EMPTY, steps + (("open", "ann", False, TERMS),) + tells(2), "ann"), 3)
        self.assertEqual(least_room(EMPTY, steps + (("open", "ann", True, TERMS),) + tells(2), "ann"), 1)

    def test_other_names_keep_their_terms(self):
        steps = (OPEN, WISH, ("open", "bob", False, TERMS), ("wish", "bob", "#", "light")) + tells(4)
        self.assertEqual(least_room(EMPTY, steps, "ann"), 4)
        self.assertEqual(least_room(EMPTY, steps, "bob"), 4)
        self.assertEqual(least_room(EMPTY, steps, "cid"), 1)


class Keep(unittest.TestCase):
    def test_turns(self):
        shut = (OPEN, ("shut", "ann"))
        for many in range(60):
            self.assertEqual(least_keep(EMPTY, shut[:1] + (TURN,) * many, "ann"), 0)
            if many < 59:
                self.assertEqual(least_keep(EMPTY, shut + (TURN,) * many, "ann"), many + 1)

    def test_sixty_and_more(self):
        # A house lets a session have been left alone ahead of sixty steps.
        house = waiting_house(0, 100, (100, 1, "elder", None))
        self.assertEqual(least_keep(house, (TURN,) * 59, "ann"), 60)
        self.assertIsNone(least_keep(house, (TURN,) * 60, "ann"))
        shut = waiting_house(0, "open", (0, 1, "elder", None))
        self.assertEqual(least_keep(shut, (("break", "ann"),) + (TURN,) * 59, "ann"), 60)
        self.assertIsNone(least_keep(house, (TURN,) * 59 + (TURN,), "ann"))

    def test_as_many_turns_left_as_it_had(self):
        house = waiting_house(0, 3, (100, 1, "elder", None))
        self.assertEqual(least_keep(house, (TURN,) * 2, "ann"), 3)
        self.assertIsNone(least_keep(house, (TURN,) * 3, "ann"))
        self.assertEqual(least_keep(house, (), "ann"), 1)

    def test_open(self):
        # Only because its keep is 0 an open session ends by "open" in a way that counts.
        self.assertEqual(least_keep(EMPTY, (OPEN, OPEN), "ann"), 1)
        self.assertEqual(least_keep(EMPTY, (OPEN, ("open", "ann", True, TERMS)), "ann"), 1)
        shut = (OPEN, ("shut", "ann"), ("open", "ann", True, TERMS))
        self.assertEqual(least_keep(EMPTY, shut, "ann"), 1)
        self.assertEqual(least_keep(EMPTY, (OPEN, ("open", "bob", True, TERMS)), "ann"), 0)
        self.assertEqual(least_keep(waiting_house(2), (("open", "ann", False, TERMS),), "ann"), 1)

    def test_steps_left_out_anew(self):
        # With a keep of 2 the session is there for the second "open", and is broken once more.
        steps = (OPEN, ("break", "ann"), TURN, ("wish", "bob", "a", "light"), OPEN, ("take", "bob", 1), ("shut", "ann"))
        self.assertEqual(least_keep(EMPTY, steps, "ann"), 2)
        self.assertEqual(least_keep(EMPTY, (("shut", "ann"), TURN), "ann"), 0)

    def test_other_names_keep_their_terms(self):
        steps = (OPEN, ("open", "bob", False, (0, 1, "elder", None)), ("shut", "bob"), ("shut", "ann"))
        self.assertEqual(least_keep(EMPTY, steps, "ann"), 1)
        self.assertEqual(least_keep(EMPTY, steps[:3], "ann"), 0)
        # Six other sessions leave no room for one of this name, unless one of them ends.
        opened = tuple(("open", name, False, (0, 1, "elder", None)) for name in NAMES[1:])
        rest = (OPEN, ("shut", "ann"), TURN, TURN)
        self.assertEqual(least_keep(EMPTY, opened + (("shut", "bob"),) + rest, "ann"), 3)
        self.assertEqual(least_keep(EMPTY, opened + rest, "ann"), 0)
        house = (0, tuple((name, "open", (5, 1, "elder", None), (), ()) for name in NAMES[1:]))
        self.assertEqual(least_keep(house, (("shut", "bob"),) + rest[:2], "ann"), 0)
        house = (0, tuple((name, "open", (0, 1, "elder", None), (), ()) for name in NAMES[1:]))
        self.assertEqual(least_keep(house, (("shut", "bob"),) + rest, "ann"), 3)


class ManySteps(unittest.TestCase):
    """Sixty steps with six sessions to which all words come."""

    def test_words_that_drop_no_session(self):
        terms = (60, 12, "elder", None)
        opens = tuple(("open", name, False, terms) for name in "abcdef")
        wishes = tuple(("wish", name, "#", "marked") for name in "abcdef")
        steps = opens + wishes + (("tell", "light", "a/b", 7),) * 48
        self.assertEqual(len(steps), 60)
        for name in "abcdef":
            self.assertEqual(least_keep(EMPTY, steps, name), 0)
            self.assertIsNone(least_room(EMPTY, steps, name))
        self.assertEqual(least_keep(EMPTY, opens + (("shut", "a"),) + (TURN,) * 53, "a"), 54)
        self.assertEqual(least_room(EMPTY, opens + wishes + (("tell", "light", "a/b", 7),) * 12, "f"), 12)

    def test_a_name_that_comes_too_late(self):
        # While six others are there, none is opened, and so none can be left alone.
        opens = tuple(("open", name, False, (5, 1, "elder", None)) for name in "abcdefg")
        self.assertEqual(least_keep(EMPTY, opens + (("shut", "g"), TURN), "g"), 0)
        late = (("shut", "a"),) + (TURN,) * 5 + (opens[6], ("break", "g"), TURN, TURN)
        self.assertEqual(least_keep(EMPTY, opens + late, "g"), 3)
        self.assertEqual(least_keep(EMPTY, opens[:6] + late[:5] + late[6:], "g"), 0)

    def test_a_name_that_comes_back_among_six(self):
        opens = tuple(("open", name, False, (5, 1, "elder", None)) for name in "abcdef")
        back = (("shut", "a"), TURN, opens[0], TURN, TURN, TURN)
        self.assertEqual(least_keep(EMPTY, opens + back, "a"), 2)
        self.assertEqual(least_keep(EMPTY, opens + back[:2] + (("open", "g", False, opens[0][3]),) + back[3:], "a"), 5)

    def test_turns_that_cannot_be_done(self):
        for more in range(4):
            house = (10 ** 6 - more, ())
            self.assertEqual(least_keep(house, (OPEN, ("shut", "ann")) + (TURN,) * 9, "ann"), 1 + more)
            left = waiting_house(0, 3)
            keep = None if more > 2 else 1 + more
            self.assertEqual(least_keep((10 ** 6 - more,) + left[1:], (TURN,) * 9, "ann"), keep)


class BesideAnotherTelling(unittest.TestCase):
    def test_all_rooms_and_keeps(self):
        dice = random.Random(72)
        found = set()
        for seed in range(60):
            names = NAMES[:1 + seed % 3]
            house = some_house(dice, names) if seed % 3 else EMPTY
            steps = tuple(some_step(dice, names) for _ in range(dice.randrange(61)))
            name = dice.choice(names)
            room, keep = least_room(house, steps, name), least_keep(house, steps, name)
            self.assertEqual(room, least_room_told(house, steps, name))
            self.assertEqual(keep, least_keep_told(house, steps, name))
            found.update((("room", room is None), ("keep", keep is None)))
            if room is not None:
                self.check_greater_rooms(house, steps, name, room)
        self.assertEqual(found, {("room", False), ("room", True), ("keep", False), ("keep", True)})

    def check_greater_rooms(self, house, steps, name, room):
        for more in range(room, 13):
            told = told_leaving_out(*changed_terms(house, steps, name, 1, more))
            dropped = [one for _, _, said in told for one in said if one[:3] == ("dropped", name, "room")]
            self.assertEqual(dropped, [])

    def test_more_names_than_there_may_be_sessions(self):
        dice = random.Random(74)
        found = set()
        for _ in range(40):
            steps = []
            for _ in range(dice.randrange(20, 61)):
                word, name = dice.choice(("open", "open", "shut", "break", "turn")), dice.choice("abcdefgh")
                terms = (dice.choice((0, 1, 1, 2, 3)), 1, "elder", None)
                step = ("open", name, dice.randrange(3) == 0, terms) if word == "open" else (word, name)
                steps.append(TURN if word == "turn" else step)
            name = dice.choice("abcdefgh")
            keep = least_keep(EMPTY, tuple(steps), name)
            self.assertEqual(keep, least_keep_told(EMPTY, steps, name))
            found.add(keep)
        self.assertGreater(len(found), 4)

    def test_few_names_and_long_runs(self):
        dice = random.Random(73)
        for _ in range(25):
            steps = [("open", "ann", False, (0, 3, dice.choice(("elder", "newer", "light")), None)), WISH]
            while len(steps) < 60:
                steps.append(dice.choice((TURN, TURN, TURN, ("break", "ann"), OPEN, ("take", "ann", 2), tells(1)[0])))
            for house in (EMPTY, waiting_house(4), waiting_house(3, 2)):
                self.assertEqual(least_room(house, tuple(steps), "ann"), least_room_told(house, steps, "ann"))
                self.assertEqual(least_keep(house, tuple(steps), "ann"), least_keep_told(house, steps, "ann"))


class Arguments(ArgumentChecks, unittest.TestCase):
    def test_wrong_arguments(self):
        houses = ((0,), (-1, ()), [0, ()], (0, (OPEN,)))
        rows = ((OPEN, ("turn", 0)), [OPEN], OPEN, (list(OPEN),), (TURN,) * 61)
        names = ("", "Ann", "abcdefg", "an n", ("ann",))
        for function in (least_room, least_keep):
            self.check_arguments(
                function, (EMPTY, (OPEN, WISH), "ann"), (InvalidHouse, InvalidSteps, InvalidNames),
                (houses, rows, names),
            )
            # Steps that can't be done are left out, and raise no error.
            function(EMPTY, (WISH, ("take", "bob", 1)), "eve")


if __name__ == "__main__":
    unittest.main()
