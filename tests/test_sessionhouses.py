"""[29], [30], [31], [70]: houses and their steps."""

import random
import unittest

from heardonce.errors import CannotStep, InvalidHouse, InvalidStep, InvalidTopic, InvalidWay, InvalidWorld
from heardonce.sessionhouses import house_of_world, house_stepped, is_house, is_house_step, sessions_for
from heardonce.worlds import fresh_world
from tests.arguments import ArgumentChecks
from tests.houses import NAMES, TOPICS, WAYS, House, Impossible, some_house, some_step
from tests.runs import HARSH, MANNERS, some_run
from tests.values import ODD_VALUES, bent, replaced

TERMS = (3, 2, "elder", ("light", "b", 5))
WAITS = ((0, "marked", "a/b", 7), (4, "light", "a", 8))
ANN = ("ann", "open", TERMS, (("a/#", "marked"), ("b", "light")), WAITS)
BOB = ("bob", 2, (3, 12, "newer", None), (), ())
HOUSE = (4, (ANN, BOB))
STEPS = (
    ("open", "ann", True, TERMS), ("shut", "ann"), ("break", "ann"), ("wish", "ann", "#", "light"),
    ("unwish", "ann", "b"), ("tell", "light", "a", 1), ("take", "ann", 1), ("turn",),
)


def with_terms(keep, room, rule, last=None):
    return (4, (("ann", "open", (keep, room, rule, last), (("#", "paired"),), ()),))


def waiting(house, name):
    return [session[4] for session in house[1] if session[0] == name][0]


class Houses(unittest.TestCase):
    def test_houses(self):
        for house in (HOUSE, (0, ()), (10 ** 6, ()), (4, (ANN,)), (4, (BOB,))):
            self.assertIs(is_house(house), True)

    def test_other_kinds(self):
        no_last = replaced(HOUSE, (1, 0, 2, 3), None)
        self.assertIs(is_house(no_last), True)
        for value in bent(HOUSE) + list(ODD_VALUES) + [HOUSE[:1], HOUSE + ((),), list(HOUSE), ()]:
            self.assertIs(is_house(value), value == no_last, value)

    def test_bounds(self):
        for path, value, is_one in (
            ((0,), 10 ** 6, True), ((0,), 10 ** 6 + 1, False), ((0,), -1, False), ((0,), 3, False), ((0,), 5, True),
            ((1,), (BOB, ANN), False), ((1,), (ANN, ANN), False), ((1, 0, 0), "bob", False), ((1, 0, 0), "", False),
            ((1, 0, 1), "shut", False), ((1, 0, 1), 1, True), ((1, 0, 1), 3, True), ((1, 0, 1), 4, False),
            ((1, 0, 1), 0, False), ((1, 0, 1), True, False), ((1, 1, 1), 3, True), ((1, 1, 1), 4, False),
            ((1, 0, 2, 0), 0, True), ((1, 0, 2, 0), 1000, True), ((1, 0, 2, 0), 1001, False), ((1, 1, 2, 0), 1, False),
            ((1, 0, 2, 1), 12, True), ((1, 0, 2, 1), 13, False), ((1, 0, 2, 1), 1, False), ((1, 0, 2, 1), 0, False),
            ((1, 0, 2, 2), "newer", True), ((1, 0, 2, 2), "light", True), ((1, 0, 2, 2), "paired", False),
            ((1, 0, 2, 3), None, True), ((1, 0, 2, 3), ("light", "b"), False), ((1, 0, 2, 3), ("light", "#", 5), False),
            ((1, 0, 2), TERMS[:3], False), ((1, 0, 3), ANN[3][::-1], False), ((1, 0, 3), ANN[3][:1] * 2, False),
            ((1, 0, 3), tuple((wish, "light") for wish in "abcd"), True),
            ((1, 0, 3), tuple((wish, "light") for wish in "abcde"), False),
            ((1, 0, 4), WAITS[::-1], False), ((1, 0, 4), WAITS[:1] * 2, True), ((1, 0, 4), WAITS[:1] * 3, False),
            ((1, 0, 4, 1, 0), 5, False), ((1, 0, 4, 1, 0), 0, True), ((1, 0, 4, 0, 0), -1, False),
            ((1, 0, 4, 0), (0, "marked", "a/b"), False), ((1, 0, 4, 0, 3), 1000, False),
            ((1, 0, 4), ((),), False), ((1, 1, 4), WAITS[:1] * 12, True), ((1, 1, 4), WAITS[:1] * 13, False),
        ):
            self.assertIs(is_house(replaced(HOUSE, path, value)), is_one, (path, value))

    def test_at_most_six_sessions(self):
        sessions = tuple((name,) + BOB[1:] for name in NAMES)
        self.assertIs(is_house((4, sessions[:6])), True)
        self.assertIs(is_house((4, sessions)), False)


class Steps(unittest.TestCase):
    def test_steps(self):
        for step in STEPS:
            self.assertIs(is_house_step(step), True)
            for value in bent(step) + [step[:-1], step + (0,), list(step)]:
                self.assertIs(is_house_step(value), value == ("open", "ann", True, TERMS[:3] + (None,)), value)
        for value in ODD_VALUES:
            self.assertIs(is_house_step(value), False, value)

    def test_bounds(self):
        for step, path, value, is_one in (
            (6, (2,), 12, True), (6, (2,), 13, False), (6, (2,), 0, False), (6, (2,), True, False),
            (6, (1,), "", False), (0, (1,), "abcdef", True), (0, (1,), "abcdefg", False), (0, (2,), 0, False),
            (0, (3, 0), 1001, False),
            (0, (3, 1), 13, False), (0, (3, 3), None, True), (0, (3,), TERMS + (0,), False), (3, (2,), "#/a", False),
            (3, (3,), "open", False), (4, (2,), "a//b", False), (5, (2,), "a/+", False), (5, (3,), 999, True),
            (5, (3,), 1000, False), (5, (1,), "all", False), (7, (0,), "turns", False), (1, (0,), "close", False),
        ):
            self.assertIs(is_house_step(replaced(STEPS[step], path, value)), is_one, (step, path, value))


class Stepped(unittest.TestCase):
    def check_cannot(self, house, *steps):
        for step in steps:
            self.assertIs(is_house_step(step), True)
            with self.assertRaises(CannotStep, msg=step):
                house_stepped(house, step)

    def test_no_such_session(self):
        for name in ("cid", "an"):
            self.check_cannot(
                HOUSE, ("shut", name), ("break", name), ("wish", name, "a", "light"), ("unwish", name, "b"),
                ("take", name, 1),
            )

    def test_not_open(self):
        self.check_cannot(
            HOUSE, ("shut", "bob"), ("break", "bob"), ("wish", "bob", "a", "light"), ("unwish", "bob", "b"),
            ("take", "bob", 1),
        )

    def test_no_such_wish(self):
        self.check_cannot(HOUSE, ("unwish", "ann", "#"), ("unwish", "ann", "a"))

    def test_no_house_behind_it(self):
        sessions = tuple((name,) + BOB[1:] for name in NAMES[:6])
        self.check_cannot((4, sessions), ("open", "guy", True, TERMS), ("open", "guy", False, TERMS))
        self.assertEqual(len(house_stepped((4, sessions), ("open", "fay", True, TERMS))[0][1]), 6)
        self.assertEqual(len(house_stepped((4, sessions[:5]), ("open", "guy", True, TERMS))[0][1]), 6)
        self.check_cannot((10 ** 6, (ANN,)), ("turn",))
        self.assertEqual(house_stepped((10 ** 6 - 1, (ANN,)), ("turn",)), ((10 ** 6, (ANN,)), ()))
        four = replaced(HOUSE, (1, 0, 3), tuple((wish, "light") for wish in "abcd"))
        self.check_cannot(four, ("wish", "ann", "e", "light"))
        self.assertEqual(house_stepped(four, ("wish", "ann", "d", "paired"))[0][1][0][3][3], ("d", "paired"))

    def test_wishes(self):
        house, told = house_stepped(HOUSE, ("wish", "ann", "+", "paired"))
        self.assertEqual(house[1][0][3], (("+", "paired"),) + ANN[3])
        self.assertEqual(told, ())
        self.assertEqual(house_stepped(house, ("unwish", "ann", "+")), (HOUSE, ()))
        self.assertEqual(house_stepped(HOUSE, ("wish", "ann", "b", "marked"))[0][1][0][3][1], ("b", "marked"))
        self.assertEqual(house_stepped(HOUSE, ("wish", "ann", "b", "light")), (HOUSE, ()))

    def test_take(self):
        handed = tuple(("handed", "ann") + word for word in WAITS)
        for many, left in ((1, WAITS[1:]), (2, ()), (3, ()), (12, ())):
            house, told = house_stepped(HOUSE, ("take", "ann", many))
            self.assertEqual(waiting(house, "ann"), left)
            self.assertEqual(told, handed[:many])
        empty = replaced(HOUSE, (1, 0, 4), ())
        self.assertEqual(house_stepped(empty, ("take", "ann", 1)), (empty, ()))

    def test_shut(self):
        house, told = house_stepped(HOUSE, ("shut", "ann"))
        self.assertEqual(house, (4, (("ann", 3, (3, 2, "elder", None)) + ANN[3:], BOB)))
        self.assertEqual(told, ())
        house, told = house_stepped(replaced(HOUSE, (1, 0, 2, 0), 0), ("shut", "ann"))
        self.assertEqual(house, (4, (BOB,)))
        self.assertEqual(told, tuple(("dropped", "ann", "end") + word for word in WAITS) + (("ended", "ann"),))

    def test_break(self):
        house, told = house_stepped(HOUSE, ("break", "ann"))
        # The last word comes to the session itself, too, and finds no room.
        last = (4, "light", "b", 5)
        self.assertEqual(house[1][0], ("ann", 3, (3, 2, "elder", None), ANN[3], WAITS[1:] + (last,)))
        self.assertEqual(told, (("dropped", "ann", "room") + WAITS[0],))
        ending = (4, (replaced(ANN, (2, 0), 0), ("bob", "open", TERMS, (("#", "paired"),), ())))
        house, told = house_stepped(ending, ("break", "ann"))
        self.assertEqual([session[0] for session in house[1]], ["bob"])
        self.assertEqual(waiting(house, "bob"), (last,))
        self.assertEqual(told[-1], ("ended", "ann"))
        no_last = replaced(HOUSE, (1, 0, 2, 3), None)
        self.assertEqual(house_stepped(no_last, ("break", "ann")), house_stepped(no_last, ("shut", "ann")))

    def test_turn(self):
        sessions = tuple(
            (name, state, (9, 2, "elder", None), (), ((0, "light", name, 1),))
            for name, state in (("ann", 1), ("bob", "open"), ("cid", 2), ("dan", 1))
        )
        house, told = house_stepped((0, sessions), ("turn",))
        self.assertEqual(house, (1, (sessions[1], sessions[2][:1] + (1,) + sessions[2][2:])))
        self.assertEqual(told, (
            ("dropped", "ann", "end", 0, "light", "ann", 1), ("ended", "ann"),
            ("dropped", "dan", "end", 0, "light", "dan", 1), ("ended", "dan"),
        ))

    def test_tell(self):
        sessions = (
            ("ann", "open", (0, 9, "elder", None), (("a/#", "marked"),), ()),
            ("bob", 1, (1, 9, "elder", None), (("#", "light"), ("a", "paired")), ()),
            ("cid", "open", (0, 9, "elder", None), (("b", "paired"),), ()),
        )
        house, told = house_stepped((3, sessions), ("tell", "paired", "a", 5))
        self.assertEqual([session[4] for session in house[1]], [
            ((3, "marked", "a", 5),), ((3, "paired", "a", 5),), (),
        ])
        self.assertEqual(told, ())


class Room(unittest.TestCase):
    def run_of(self, house, ways):
        """The bodies that wait behind telling words in some ways, and those dropped, in order."""
        dropped = []
        for body, way in enumerate(ways):
            house, told = house_stepped(house, ("tell", way, "a", body))
            dropped += [(one[2], one[6]) for one in told]
        return [word[3] for word in waiting(house, "ann")], dropped

    def test_rules_at_tell(self):
        pair = "paired"
        for rule, ways, left, dropped in (
            ("elder", (pair,) * 4, [2, 3], [0, 1]), ("newer", (pair,) * 4, [0, 1], [2, 3]),
            ("light", (pair,) * 4, [2, 3], [0, 1]), ("light", (pair, "light", pair), [0, 2], [1]),
            ("light", ("light", "light", pair, pair), [2, 3], [0, 1]), ("light", (pair, pair, "light"), [0, 1], [2]),
            ("light", ("light", pair, "light"), [1, 2], [0]), ("light", (pair, "light", "light"), [0, 2], [1]),
            ("light", (pair, "marked", "marked"), [1, 2], [0]), ("newer", ("light", pair, pair), [0, 1], [2]),
            ("elder", (pair, "light", pair), [1, 2], [0]), ("elder", (pair, pair), [0, 1], []),
        ):
            told = self.run_of(with_terms(3, 2, rule), ways)
            self.assertEqual(told, (left, [("room", body) for body in dropped]), (rule, ways))

    def test_light_by_the_way_in_which_a_word_comes(self):
        house = replaced(with_terms(3, 1, "light"), (1, 0, 3), (("a", "paired"), ("b", "light")))
        house, _ = house_stepped(house, ("tell", "paired", "a", 0))
        behind, told = house_stepped(house, ("tell", "paired", "b", 1))
        self.assertEqual(told, (("dropped", "ann", "room", 4, "light", "b", 1),))
        self.assertEqual(behind, house)

    def test_turns_of_dropped_words(self):
        house, _ = house_stepped(with_terms(3, 1, "newer"), ("tell", "paired", "a", 0))
        house, _ = house_stepped(house, ("turn",))
        _, told = house_stepped(house, ("tell", "marked", "a", 1))
        self.assertEqual(told, (("dropped", "ann", "room", 5, "marked", "a", 1),))
        elder = replaced(house, (1, 0, 2, 2), "elder")
        self.assertEqual(house_stepped(elder, ("tell", "light", "a", 1))[1][0][3:5], (4, "paired"))

    def test_rules_at_open(self):
        ways = ("paired", "light", "marked", "light", "paired")
        waits = tuple((0, way, "a", body) for body, way in enumerate(ways))
        house = (4, (("ann", 2, (3, 5, "newer", None), (), waits),))
        for rule, room, dropped in (
            ("elder", 5, []), ("elder", 2, [0, 1, 2]), ("newer", 2, [4, 3, 2]), ("light", 4, [1]), ("light", 3, [1, 3]),
            ("light", 2, [1, 3, 0]), ("light", 1, [1, 3, 0, 2]), ("newer", 4, [4]), ("elder", 12, []),
        ):
            terms = (1, room, rule, None)
            behind, told = house_stepped(house, ("open", "ann", False, terms))
            self.assertEqual(told, tuple(
                ("dropped", "ann", "room") + waits[body] for body in dropped
            ) + (("on", "ann", 5 - len(dropped)),))
            left = tuple(word for word in waits if word[3] not in dropped)
            self.assertEqual(behind, (4, (("ann", "open", terms, (), left),)))


class Opened(unittest.TestCase):
    def test_new(self):
        for fresh in (False, True):
            house, told = house_stepped(HOUSE, ("open", "abe", fresh, TERMS))
            self.assertEqual(house, (4, (("abe", "open", TERMS, (), ()), ANN, BOB)))
            self.assertEqual(told, (("new", "abe"),))

    def test_one_that_is_shut(self):
        terms = (7, 12, "newer", ("paired", "a", 1))
        house, told = house_stepped(HOUSE, ("open", "bob", False, terms))
        self.assertEqual((house, told), ((4, (ANN, ("bob", "open", terms, (), ()))), (("on", "bob", 0),)))
        shut = (4, (("ann", 1) + ANN[2:],))
        house, told = house_stepped(shut, ("open", "ann", False, TERMS))
        self.assertEqual((house, told), ((4, (ANN,)), (("on", "ann", 2),)))
        house, told = house_stepped(shut, ("open", "ann", True, terms))
        self.assertEqual(house, (4, (("ann", "open", terms, (), ()),)))
        ended = tuple(("dropped", "ann", "end") + word for word in WAITS) + (("ended", "ann"),)
        # A last word that a session has that is not open is not told.
        self.assertEqual(told, ended + (("new", "ann"),))

    def test_an_open_one(self):
        last = (4, "light", "b", 5)
        room = (("dropped", "ann", "room") + WAITS[0],)
        house, told = house_stepped(HOUSE, ("open", "ann", False, (0, 9, "newer", None)))
        self.assertEqual(house[1][0], ("ann", "open", (0, 9, "newer", None), ANN[3], WAITS[1:] + (last,)))
        self.assertEqual(told, room + (("on", "ann", 2),))
        house, told = house_stepped(HOUSE, ("open", "ann", True, TERMS))
        self.assertEqual(house[1][0], ("ann", "open", TERMS, (), ()))
        self.assertEqual(told, room + (
            ("dropped", "ann", "end") + WAITS[1], ("dropped", "ann", "end") + last, ("ended", "ann"), ("new", "ann"),
        ))

    def test_an_open_one_without_keep(self):
        bob = ("bob", "open", (1, 1, "elder", None), (("#", "paired"),), ((0, "light", "c", 0),))
        for fresh in (False, True):
            house, told = house_stepped((4, (replaced(ANN, (2, 0), 0), bob)), ("open", "ann", fresh, TERMS))
            self.assertEqual(house[1][0], ("ann", "open", TERMS, (), ()))
            self.assertEqual(waiting(house, "bob"), ((4, "light", "b", 5),))
            self.assertEqual(told, tuple(("dropped", "ann", "end") + word for word in WAITS) + (
                ("ended", "ann"), ("dropped", "bob", "room", 0, "light", "c", 0), ("new", "ann"),
            ))

    def test_two_rows_of_drops(self):
        """By the old terms as the last word comes, and then by the new ones."""
        house = replaced(HOUSE, (1, 0, 2, 2), "newer")
        _, told = house_stepped(house, ("open", "ann", False, (1, 1, "elder", None)))
        self.assertEqual(told, (
            ("dropped", "ann", "room", 4, "light", "b", 5), ("dropped", "ann", "room") + WAITS[0], ("on", "ann", 1),
        ))


class BesideModel(unittest.TestCase):
    def test_rows(self):
        dice = random.Random(70)
        for seed in range(60):
            names = NAMES[:2 + seed % 6]
            house = some_house(dice, names)
            told = House(house)
            for _ in range(30):
                step = some_step(dice, names)
                try:
                    behind = told.stepped(step)
                except Impossible:
                    with self.assertRaises(CannotStep):
                        house_stepped(house, step)
                    continue
                self.assertEqual(house_stepped(house, step), (behind.house(), tuple(behind.said)))
                house, told = behind.house(), behind
                self.assertIs(is_house(house), True)

    def test_sessions_for(self):
        dice = random.Random(30)
        for _ in range(60):
            house = some_house(dice)
            for topic in TOPICS:
                for way in WAYS:
                    told = House(house).stepped(("tell", way, topic, 0))
                    came = [(word.name, word.way) for word in told.words]
                    self.assertEqual(sessions_for(house, way, topic), came)


class OfWorlds(unittest.TestCase):
    def test_behind_rows_of_events(self):
        dice = random.Random(29)
        some_wait = False
        for seed in range(60):
            _, model = some_run(dice, MANNERS[seed % len(MANNERS)], 60, {**HARSH, "pass": 1})
            world = model.world()
            house = house_of_world(world)
            self.assertIs(is_house(house), True)
            self.assertEqual(house, (0, tuple(
                (name, "open", (1000, 12, "newer", None), tuple(sorted(model.wishes[name].items())),
                 tuple((0, *word) for word in model.hands[name, "going"].waiting))
                for name in model.names
            )))
            some_wait = some_wait or any(session[4] for session in house[1])
        self.assertTrue(some_wait)

    def test_fresh(self):
        house = house_of_world(fresh_world((1, True, True), ("ann", "bob")))
        self.assertEqual(house, (0, tuple(
            (name, "open", (1000, 12, "newer", None), (), ()) for name in ("ann", "bob")
        )))


class Arguments(ArgumentChecks, unittest.TestCase):
    def test_wrong_arguments(self):
        houses = (HOUSE[:1], (3,) + HOUSE[1:], (4, (BOB, ANN)), list(HOUSE))
        steps = (("turn", 0), ("open", "ann", True), ("take", "ann", 0), ["turn"], ("end", "ann"), "turn")
        self.check_arguments(house_stepped, (HOUSE, ("turn",)), (InvalidHouse, InvalidStep), (houses, steps))
        self.check_arguments(
            sessions_for, (HOUSE, "light", "a"), (InvalidHouse, InvalidWay, InvalidTopic),
            (houses, ("", "Light"), ("a/+", "#")),
        )
        world = fresh_world((1, True, True), ("ann",))
        self.check_arguments(house_of_world, (world,), (InvalidWorld,), ((world[:6], HOUSE),))

    def test_steps_that_are_none_ahead_of_those_that_can_not_be_done(self):
        self.check_error(house_stepped, (HOUSE, ("take", "cid", 13)), InvalidStep)
        self.check_error(house_stepped, (HOUSE, ("take", "cid", 12)), CannotStep)


if __name__ == "__main__":
    unittest.main()
