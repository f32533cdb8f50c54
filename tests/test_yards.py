"""[33], [34], [35], [74]: yards, and of [3] what is said of letters."""

import random
import unittest

from heardonce.errors import InvalidLane, InvalidMark, InvalidPlan, InvalidYard
from heardonce.laneplans import old_way
from heardonce.yardacts import acted, acted_all, can_act
from heardonce.yards import deaths_in, fresh_yard, is_yard, place_of_letter, ticks_to_rest
from tests.arguments import ArgumentChecks
from tests.lanes import REASONS, some_acts, some_plan, yard_told
from tests.values import ODD_VALUES, bent, replaced

PLAN = (
    ("dead", (), 3, None, None, 2), ("fast", ("a/#",), 2, 3, "dead", 2), ("loop", ("b",), 2, 4, "loop", 3),
    ("own", (), 1, 2, None, 1),
)
# Two letters lie in "fast", one in "dead", one is held in "fast", one in "loop"; one was heard, two are gone.
YARD = (
    PLAN, 9,
    (
        ((2, 0, "a", 7, 4, 1, (("fast", "old"),)),),
        ((1, 3, "a/b", 0, 8, 1, ()), (0, 1, "a", 999, 7, 0, ())),
        (), (),
    ),
    (("fast", (3, 2, "a", 1, 2, 2, ())), ("loop", (4, 2, "b", 1, 1, 3, (("loop", "full"),)))),
    (
        ("loop", (5, 0, "b", 2, 3, 1, (("loop", "old"), ("loop", "full"))), "heard"),
        ("own", (6, 0, "c", 2, 3, 1, (("fast", "old"), ("own", "tired"))), "gone"),
        ("loop", (7, 0, "b", 2, 3, 0, (("loop", "old"), ("loop", "full"), ("loop", "old"))), "gone"),
    ),
    8,
)


def many_letters(many, ended):
    """A yard with one lane without life, in which so many letters are held, and so many were heard."""
    plan = (("a", (), 12, None, None, 5),)
    held = tuple(("a", (mark, 0, "a", 0, 0, 1, ())) for mark in range(many))
    heard = tuple(("a", (mark, 0, "a", 0, 0, 1, ()), "heard") for mark in range(many, many + ended))
    return (plan, 0, ((),), held, heard, many + ended)


class Yards(unittest.TestCase):
    def test_yards(self):
        for yard in (YARD, fresh_yard(PLAN), many_letters(40, 360), many_letters(0, 400)):
            self.assertIs(is_yard(yard), True)

    def test_other_kinds(self):
        # Two lanes may lose their `dead`, or get or lose a life, without any harm to the letters.
        fine = [replaced(YARD, path, None) for path in ((0, 1, 3), (0, 2, 3), (0, 3, 3), (0, 1, 4))]
        for value in bent(YARD):
            self.assertIs(is_yard(value), value in fine, value)
        for value in list(ODD_VALUES) + [YARD[:5], YARD + (0,), list(YARD), (), (YARD,)]:
            self.assertIs(is_yard(value), False, value)

    def check_bounds(self, rows, yard=YARD):
        for path, value, is_one in rows:
            self.assertIs(is_yard(replaced(yard, path, value)), is_one, (path, value))

    def test_bounds_of_yards(self):
        self.check_bounds((
            ((1,), 9, True), ((1,), 10, False), ((1,), 8, True), ((1,), 7, False), ((5,), 9, False), ((5,), 7, False),
            ((0,), PLAN[:3], False), ((0,), PLAN[::-1], False), ((2,), YARD[2][:3], False),
            ((2,), YARD[2] + ((),), False), ((2,), YARD[2][::-1], False), ((3,), YARD[3][::-1], False),
            ((3,), YARD[3][:1], False), ((3,), YARD[3] + YARD[3][:1], False), ((4,), YARD[4][::-1], True),
            ((4,), YARD[4][:2], False), ((4,), YARD[4] * 2, False),
        ))
        self.assertIs(is_yard(replaced(fresh_yard(PLAN), (1,), 1000)), True)
        self.assertIs(is_yard(replaced(fresh_yard(PLAN), (1,), 1001)), False)
        for many, ended, is_one in ((40, 360, 1), (41, 0, 0), (0, 401, 0), (1, 400, 0), (40, 361, 0)):
            self.assertIs(is_yard(many_letters(many, ended)), bool(is_one), (many, ended))

    def test_bounds_of_letters(self):
        letter = (2, 1, 1)
        self.check_bounds((
            (letter + (0,), 1, False), (letter + (0,), 8, False), (letter + (0,), 400, False), (letter + (1,), 0, True),
            (letter + (1,), 3, False), (letter + (1,), 2, True), (letter + (1,), 4, False), (letter + (1,), -1, False),
            (letter + (2,), "a/+", False), (letter + (2,), "zz/y", True), (letter + (3,), 1000, False),
            (letter + (3,), 0, True), (letter + (4,), 9, True), (letter + (4,), 10, False), (letter + (4,), 6, False),
            (letter + (5,), 1, True), (letter + (5,), 2, False), (letter + (6,), (("zoe", "old"),), False),
            (letter + (6,), (("fast", "late"),), False), (letter + (6,), (("fast", "old"), ("fast", "tired")), True),
            (letter + (6,), (("fast", "old"), ("dead", "old"), ("fast", "old")), False),
            (letter + (6,), (("fast", "old", 1),), False), (letter + (6,), (["fast", "old"],), False),
            ((2, 0, 0, 5), 2, False), ((2, 0, 0, 5), 1, True), ((2, 0, 0, 4), 0, True), ((2, 0, 0, 4), 10, False),
        ))

    def test_letters_held(self):
        self.check_bounds((
            ((3, 0, 1, 5), 1, True), ((3, 0, 1, 5), 2, True), ((3, 0, 1, 5), 3, False), ((3, 0, 1, 5), 0, False),
            ((3, 1, 1, 5), 3, True), ((3, 1, 1, 5), 4, False), ((3, 0, 0), "loop", True), ((3, 0, 0), "own", False),
            ((3, 0, 1, 1), 3, True), ((3, 0, 1, 1), 4, False), ((3, 0, 0), "zoe", False), ((3, 0, 1, 4), 0, True),
            ((3, 0, 1, 4), 9, True), ((3, 0, 1, 4), 10, False),
            ((3, 0, 1, 6), (("dead", "full"),) * 2, False), ((3, 0, 1, 6), (("dead", "full"), ("dead", "old")), True),
        ))

    def test_letters_that_are_ended(self):
        self.check_bounds((
            ((4, 0, 1, 5), 0, True), ((4, 0, 1, 5), 5, True), ((4, 0, 1, 5), 6, False), ((4, 0, 2), "gone", False),
            ((4, 0, 2), "lies", False), ((4, 0, 1, 6), (), True), ((4, 0, 1, 6), (("own", "old"),) * 2, False),
            ((4, 1, 1, 6), (), False), ((4, 1, 1, 6), (("own", "old"),), True), ((4, 1, 0), "fast", False),
            ((4, 1, 2), "heard", True), ((4, 1, 1, 6), (("own", "old"), ("own", "old")), False),
            ((4, 1, 1, 6), (("own", "old"), ("fast", "old")), False),
            ((4, 1, 1, 6), (("fast", "old"), ("fast", "old"), ("own", "old")), False),
            ((4, 2, 2), "heard", False), ((4, 2, 1, 6), (("loop", "old"), ("loop", "old")), True),
            ((4, 2, 1, 6), (("loop", "old"),), False), ((4, 2, 1, 6), (("loop", "old"),) * 3, False),
            ((4, 2, 1, 6), (("fast", "old"), ("fast", "old")), False),
            ((4, 2, 1, 6), (("fast", "old"), ("fast", "old"), ("loop", "old"), ("loop", "old")), False),
            ((4, 2, 1, 6), (("loop", "full"), ("loop", "old"), ("loop", "old")), True),
            ((4, 2, 1, 6), (("loop", "old"), ("fast", "old"), ("loop", "old")), True), ((4, 2, 0), "fast", False),
        ))

    def test_order_of_those_that_lie(self):
        plan = (("a", ("a",), 6, None, None, 2),)
        letters = (
            (4, 3, "a", 0, 5, 0, ()), (3, 2, "a", 0, 1, 0, ()), (0, 2, "a", 0, 2, 1, ()), (1, 2, "a", 0, 2, 0, ()),
            (2, 0, "a", 0, 0, 0, ()),
        )
        self.assertIs(is_yard((plan, 5, (letters,), (), (), 5)), True)
        for at in range(4):
            turned = letters[:at] + (letters[at + 1], letters[at]) + letters[at + 2:]
            self.assertIs(is_yard((plan, 5, (turned,), (), (), 5)), False)

    def test_no_more_lie_than_most(self):
        letters = tuple((mark, 0, "a", 0, 0, 0, ()) for mark in range(4))
        for many in range(5):
            yard = ((("a", (), 3, None, None, 1),), 0, (letters[:many],), (), (), many)
            self.assertIs(is_yard(yard), many <= 3)

    def test_as_old_as_the_life_of_its_lane(self):
        plan = (("a", (), 3, 5, None, 1),)
        for since in range(12):
            yard = (plan, 9, (((0, 0, "a", 0, since, 0, ()),),), (), (), 1)
            self.assertIs(is_yard(yard), 5 <= since <= 9)


class Places(unittest.TestCase):
    def test_each_mark(self):
        told = [place_of_letter(YARD, mark) for mark in range(8)]
        self.assertEqual([place[0] for place in told], "lies lies lies held held heard gone gone".split())
        self.assertEqual([place[1] for place in told], "fast fast dead fast loop loop own loop".split())
        self.assertEqual([place[2][0] for place in told], list(range(8)))
        self.assertEqual(told[3], ("held", "fast", (3, 2, "a", 1, 2, 2, ())))

    def test_beside_another_telling(self):
        dice = random.Random(34)
        for _ in range(40):
            _, told = some_acts(dice, 30)
            for letter in told.letters:
                self.assertEqual(
                    place_of_letter(told.yard(), letter.mark), (letter.place, letter.lane, letter.told())
                )

    def test_each_letter_is_at_one_place_and_died_once_in_a_lane_for_a_reason(self):
        dice = random.Random(3)
        gone = 0
        for _ in range(60):
            acts, told = some_acts(dice, 40)
            yard = acted_all(fresh_yard(told.plan), acts)
            lying = [letter for lot in yard[2] for letter in lot]
            letters = lying + [letter for _, letter in yard[3]] + [row[1] for row in yard[4]]
            self.assertEqual(sorted(letter[0] for letter in letters), list(range(yard[5])))
            for mark in range(yard[5]):
                word, _, letter = place_of_letter(yard, mark)
                gone += word == "gone"
                if word != "gone":
                    self.assertEqual(len(set(letter[6])), len(letter[6]))
        self.assertGreater(gone, 50)


class Deaths(unittest.TestCase):
    def test_each_lane(self):
        self.assertEqual(deaths_in(YARD, "dead"), (0, 0, 0, 0))
        self.assertEqual(deaths_in(YARD, "fast"), (0, 2, 0, 0))
        self.assertEqual(deaths_in(YARD, "loop"), (3, 3, 0, 0))
        self.assertEqual(deaths_in(YARD, "own"), (0, 0, 0, 1))

    def test_beside_another_count(self):
        dice = random.Random(36)
        some = [0, 0, 0, 0]
        for _ in range(60):
            _, told = some_acts(dice, 40)
            for lane in told.lanes:
                self.assertEqual(deaths_in(told.yard(), lane), told.deaths_in(lane))
                some = [one + more for one, more in zip(some, told.deaths_in(lane))]
        self.assertTrue(all(some), dict(zip(REASONS, some)))


class Ticks(unittest.TestCase):
    def test_beside_ticks_told_one_by_one(self):
        dice = random.Random(74)
        kinds = set()
        for lives in ((None, 1, 2, 3, 5), (1, 2, 3), (1, 4, 20)):
            for _ in range(60):
                _, told = some_acts(dice, dice.randrange(30), some_plan(dice, lives))
                ticks = told.ticks_to_rest()
                self.assertEqual(ticks_to_rest(told.yard()), ticks, told.yard())
                kinds.add(ticks if ticks in (None, 0) else 1)
        self.assertEqual(kinds, {None, 0, 1})

    def test_nothing_lies(self):
        self.assertEqual(ticks_to_rest(fresh_yard(PLAN)), 0)
        self.assertEqual(ticks_to_rest(many_letters(3, 2)), 0)

    def test_lanes_without_life(self):
        self.assertIsNone(ticks_to_rest(YARD))
        plan = (("a", ("a",), 1, None, "b", 1), ("b", (), 1, 2, "a", 1))
        self.assertIsNone(ticks_to_rest(acted_all(fresh_yard(plan), (("put", 0, "a", 0), ("put", 0, "a", 1)))))

    def test_rings(self):
        for life, most in ((1, 1), (20, 12), (7, 3)):
            plan = (("a", ("a",), most, life, "b", 1), ("b", (), most, life, "a", 1))
            yard = acted(fresh_yard(plan), ("put", 0, "a", 0))
            self.assertEqual(ticks_to_rest(yard), 3 * life)
        self.assertEqual(ticks_to_rest(acted(fresh_yard((("a", ("#",), 1, 20, "a", 1),)), ("put", 0, "a", 0))), 40)

    def test_where_a_tick_could_not_happen(self):
        plan = (("a", ("a",), 1, 3, None, 1),)
        yard = (plan, 4, (((0, 0, "a", 0, 2, 0, (("a", "old"),)),),), (), (), 1)
        self.assertIs(is_yard(yard), True)
        self.assertIs(can_act(yard, ("tick",)), False)
        self.assertEqual(ticks_to_rest(yard), 1)
        late = acted(replaced(fresh_yard(plan), (1,), 1000), ("put", 0, "a", 0))
        self.assertIs(can_act(late, ("tick",)), False)
        self.assertEqual(ticks_to_rest(late), 3)

    def test_a_letter_alone_goes_the_old_way_of_its_lane(self):
        dice = random.Random(37)
        for _ in range(100):
            plan = tuple(lane[:1] + (("a",) if at == 0 else (),) + lane[2:] for at, lane in enumerate(some_plan(dice)))
            layings, (word, last) = old_way(plan, plan[0][0])
            yard = acted(fresh_yard(plan), ("put", 0, "a", 0))
            ways = [layings[0]]
            for turn in range(1, 61):
                if not any(yard[2]):
                    break
                yard = acted(yard, ("tick",))
                for name, letter in [(lane[0], lot[0]) for lane, lot in zip(plan, yard[2]) if lot]:
                    # A letter that died more than once by one tick is seen in the last lane only.
                    if letter[4] == turn:
                        ways.append((name, turn))
            self.assertLessEqual(set(ways), set(layings))
            self.assertEqual(ways[-1], [way for way in layings if way[1] == layings[-1][1]][-1])
            if word == "gone":
                self.assertEqual(place_of_letter(yard, 0)[0], "gone")
                self.assertEqual(yard[1], last)
                self.assertEqual(ticks_to_rest(acted(fresh_yard(plan), ("put", 0, "a", 0))), last)
            else:
                self.assertEqual(place_of_letter(yard, 0)[:2], ("lies", last))


class Arguments(ArgumentChecks, unittest.TestCase):
    def test_wrong_arguments(self):
        yards = (YARD[:5], replaced(YARD, (5,), 9), (), list(YARD))
        self.check_arguments(fresh_yard, (PLAN,), (InvalidPlan,), ((PLAN[::-1], ()),))
        self.check_arguments(
            place_of_letter, (YARD, 0), (InvalidYard, InvalidMark), (yards, (8, -1, True, 400, "0")),
        )
        self.check_arguments(deaths_in, (YARD, "own"), (InvalidYard, InvalidLane), (yards, ("", "owns", ("own",))))
        self.check_arguments(ticks_to_rest, (YARD,), (InvalidYard,), (yards,))

    def test_no_marks(self):
        for mark in (0, -1, 1):
            with self.assertRaises(InvalidMark):
                place_of_letter(fresh_yard(PLAN), mark)

    def test_told_yards(self):
        self.assertEqual(yard_told(YARD).yard(), YARD)


if __name__ == "__main__":
    unittest.main()
