"""[36], [37], [75]: acts in yards."""

import random
import unittest

from heardonce.errors import CannotHappen, InvalidAct, InvalidActs, InvalidWorld, InvalidYard
from heardonce.worlds import fresh_world
from heardonce.yardacts import acted, acted_all, acts_that_can, can_act, fed, is_act
from heardonce.yards import deaths_in, fresh_yard, is_yard, place_of_letter
from tests.arguments import ArgumentChecks
from tests.lanes import TOPICS, Impossible, Yard, ranks_of, some_acts, some_plan
from tests.runs import HARSH, MANNERS, some_run
from tests.values import ODD_VALUES, bent, replaced

PLAN = (
    ("dead", (), 9, None, None, 1), ("fast", ("a/#", "b"), 2, 3, "dead", 2), ("loop", ("a/+",), 5, 2, "loop", 1),
)
ACTS = (("put", 1, "a/b", 7), ("take", "fast"), ("done", 2), ("refuse", 399), ("back", 0), ("tick",))


def one_lane(most=1, life=None, dead=None, tries=1):
    return (("a", ("a",), most, life, dead, tries),)


def put(rank=0, topic="a"):
    return ("put", rank, topic, 0)


def behind(plan, *acts):
    return acted_all(fresh_yard(plan), acts)


def deaths_of(yard, mark):
    return place_of_letter(yard, mark)[2][6]


class Acts(unittest.TestCase):
    def test_acts(self):
        for act in ACTS:
            self.assertIs(is_act(act), True)
            for value in bent(act) + [act[:-1], act + (0,), list(act)]:
                self.assertIs(is_act(value), False, value)
        for value in ODD_VALUES:
            self.assertIs(is_act(value), False, value)

    def test_bounds(self):
        for act, path, value, is_one in (
            (0, (1,), 0, True), (0, (1,), 3, True), (0, (1,), 4, False), (0, (2,), "#", False), (0, (3,), 0, True),
            (0, (3,), 999, True), (0, (3,), 1000, False), (1, (1,), "", False), (1, (1,), "zoe", True),
            (1, (1,), "abcdefg", False), (2, (1,), 0, True), (2, (1,), 399, True), (2, (1,), 400, False),
            (2, (0,), "lost", False), (2, (0,), "take", False), (1, (0,), "done", False), (5, (0,), "tock", False),
        ):
            self.assertIs(is_act(replaced(ACTS[act], path, value)), is_one, (act, path, value))


class Beside(unittest.TestCase):
    def test_rows_of_acts(self):
        dice = random.Random(37)
        died, many_died = set(), 0
        for _ in range(80):
            yard = fresh_yard(some_plan(dice))
            acts, told = some_acts(dice, 40, yard[0])
            model = Yard(yard[0])
            for act in acts:
                model = model.behind(act)
                before, yard = yard, acted(yard, act)
                self.assertEqual(yard, model.yard(), (before, act))
                if act == ("tick",) and sum(map(len, before[2])) - sum(map(len, yard[2])) > 1:
                    many_died += 1
            self.assertEqual(acted_all(fresh_yard(yard[0]), acts), yard)
            self.assertIs(is_yard(yard), True)
            died.update(
                (row[1][6][-1][1], told.lanes[row[0]][4] is None) for row in yard[4] if row[2] == "gone"
            )
        # Letters end for each reason, in lanes with and without `dead`.
        self.assertEqual(died, {(why, is_end) for why in ("full", "old", "refused", "tired") for is_end in (0, 1)})
        self.assertGreater(many_died, 10)

    def test_acts_that_can_beside_all_tried(self):
        dice = random.Random(75)
        for _ in range(80):
            _, model = some_acts(dice, dice.randrange(40))
            yard, found = model.yard(), []
            acts = [("tick",)] + [("take", name) for name in sorted(model.lanes) + ["zoe"]]
            acts += [(word, mark) for word in ("done", "refuse", "back") for mark in range(yard[5] + 1)]
            for act in acts + [("put", 3, topic, 1) for topic in TOPICS]:
                try:
                    self.assertEqual(acted(yard, act), model.behind(act).yard())
                    self.assertIs(can_act(yard, act), True)
                    found.append(act)
                except Impossible:
                    self.assertIs(can_act(yard, act), False)
                except CannotHappen:
                    self.assertRaises(Impossible, model.behind, act)
                    self.assertIs(can_act(yard, act), False)
            self.assertEqual(acts_that_can(yard), sorted(act for act in found if act[0] != "put"))

    def test_fed(self):
        dice = random.Random(34)
        for _ in range(40):
            _, model = some_run(dice, dice.choice(MANNERS), 40, HARSH)
            _, yard = some_acts(dice, dice.randrange(10), some_plan(dice, most=12))
            start = yard.yard()
            try:
                for act in ranks_of(model.owned):
                    yard = yard.behind(act)
                self.assertEqual(fed(start, model.world()), yard.yard())
            except Impossible:
                self.assertRaises(CannotHappen, fed, start, model.world())

    def test_fed_with_nothing(self):
        self.assertEqual(fed(fresh_yard(PLAN), fresh_world((1, True, True), ("a",))), fresh_yard(PLAN))

    def test_fed_beyond_what_may_die(self):
        plan = one_lane(dead=None)
        yard = behind(plan, put(), put())
        self.assertEqual(deaths_of(yard, 1), (("a", "full"),))
        world = replaced(fresh_world((1, True, True), ("a",)), (6,), (("a", "paired", "a", 5), ("a", "light", "a", 6)))
        self.assertEqual([letter[1] for letter in fed(yard, world)[2][0]], [2])
        self.assertEqual(fed(yard, world)[5], 4)


class Puts(unittest.TestCase):
    def test_lanes_met(self):
        yard = fresh_yard(PLAN)
        self.assertEqual(acted(yard, put(topic="z")), yard)
        self.assertEqual([len(lot) for lot in acted(yard, put(topic="b"))[2]], [0, 1, 0])
        both = acted(yard, put(2, "a/b"))
        self.assertEqual(both[2], ((), ((0, 2, "a/b", 0, 0, 0, ()),), ((1, 2, "a/b", 0, 0, 0, ()),)))
        self.assertEqual(both[5], 2)

    def test_greater_ranks_push_lesser_ones_out(self):
        yard = behind(PLAN, put(1, "b"), put(2, "b"), put(0, "b"), put(3, "b"))
        self.assertEqual([letter[0] for letter in yard[2][1]], [3, 1])
        self.assertEqual([letter[0] for letter in yard[2][0]], [0, 2])
        self.assertEqual(deaths_in(yard, "fast"), (2, 0, 0, 0))

    def test_pushed_through_several_lanes(self):
        plan = (
            ("a", ("a",), 1, None, "b", 1), ("b", ("b",), 1, None, "c", 1), ("c", ("c",), 1, None, None, 1),
        )
        yard = behind(plan, put(3, "c"), put(2, "b"), put(1, "a"), put(2, "a"))
        self.assertEqual([[letter[0] for letter in lot] for lot in yard[2]], [[3], [1], [0]])
        self.assertEqual(place_of_letter(yard, 2), (
            "gone", "c", (2, 1, "a", 0, 0, 0, (("a", "full"), ("b", "full"), ("c", "full"))),
        ))

    def test_round_a_ring_to_its_end(self):
        plan = (("a", ("a",), 1, None, "b", 1), ("b", (), 1, None, "a", 1))
        yard = behind(plan, put(3), put(2), put(1))
        self.assertEqual(deaths_of(yard, 2), (("a", "full"), ("b", "full"), ("a", "full")))
        self.assertEqual(place_of_letter(yard, 2)[:2], ("gone", "a"))
        self.assertEqual(deaths_of(yard, 1), (("a", "full"),))

    def test_its_own_dead(self):
        yard = behind(one_lane(dead="a"), put(3), put(2))
        self.assertEqual(place_of_letter(yard, 1), ("gone", "a", (1, 2, "a", 0, 0, 0, (("a", "full"),) * 2)))

    def test_marks(self):
        plan = tuple((name, ("a",), 1, None, None, 1) for name in "abcd")
        yard = behind(plan, *[put()] * 100)
        self.assertEqual(yard[5], 400)
        self.assertIs(can_act(yard, put()), False)
        self.assertRaises(CannotHappen, acted, yard, put())
        self.assertIs(can_act(yard, put(topic="b")), True)
        yard = behind(plan[:3], *[put()] * 132)
        self.assertEqual(yard[5], 396)
        yard = acted(yard, put())
        self.assertEqual(yard[5], 399)
        self.assertIs(can_act(yard, put()), False)


class Takes(unittest.TestCase):
    def test_first_one(self):
        yard = behind(PLAN, put(0, "b"), put(1, "b"), ("take", "fast"))
        self.assertEqual(yard[3], (("fast", (1, 1, "b", 0, 0, 1, ())),))
        self.assertEqual([letter[0] for letter in yard[2][1]], [0])

    def test_cannot(self):
        for lane in ("fast", "dead", "zoe"):
            self.assertRaises(CannotHappen, acted, fresh_yard(PLAN), ("take", lane))

    def test_at_most_forty_held(self):
        plan = one_lane(12)
        yard = fresh_yard(plan)
        for _ in range(40):
            yard = acted_all(yard, (put(), ("take", "a")))
        yard = acted(yard, put())
        self.assertEqual(len(yard[3]), 40)
        self.assertIs(can_act(yard, ("take", "a")), False)
        self.assertNotIn(("take", "a"), acts_that_can(yard))
        self.assertIs(can_act(acted(yard, ("done", 17)), ("take", "a")), True)


class Held(unittest.TestCase):
    def test_no_such_mark(self):
        yard = behind(PLAN, put(0, "b"), put(0, "b"), ("take", "fast"), ("done", 0))
        for word in ("done", "refuse", "back"):
            for mark in (0, 1, 2, 399):
                self.assertRaises(CannotHappen, acted, yard, (word, mark))

    def test_done(self):
        yard = behind(PLAN, put(0, "b"), ("take", "fast"), ("done", 0))
        self.assertEqual(place_of_letter(yard, 0), ("heard", "fast", (0, 0, "b", 0, 0, 1, ())))

    def test_refused(self):
        yard = behind(PLAN, put(0, "b"), ("take", "fast"), ("tick",), ("refuse", 0))
        self.assertEqual(place_of_letter(yard, 0), ("lies", "dead", (0, 0, "b", 0, 1, 0, (("fast", "refused"),))))
        gone = acted_all(yard, (("take", "dead"), ("refuse", 0)))
        self.assertEqual(gone[4][0][::2], ("dead", "gone"))
        self.assertEqual(deaths_of(gone, 0), (("fast", "refused"), ("dead", "refused")))

    def test_refused_twice_in_a_lane_that_is_its_own_dead(self):
        yard = behind(one_lane(dead="a"), put(), ("take", "a"), ("refuse", 0))
        self.assertEqual(place_of_letter(yard, 0)[:2], ("lies", "a"))
        yard = acted_all(yard, (("take", "a"), ("refuse", 0)))
        self.assertEqual(place_of_letter(yard, 0), ("gone", "a", (0, 0, "a", 0, 0, 1, (("a", "refused"),) * 2)))

    def test_back(self):
        plan = one_lane(2, 5, None, 3)
        yard = behind(plan, put(), ("take", "a"), ("tick",), ("back", 0))
        self.assertEqual(yard[2][0], ((0, 0, "a", 0, 0, 1, ()),))
        yard = acted_all(yard, (("take", "a"), ("back", 0), ("take", "a"), ("back", 0)))
        self.assertEqual(place_of_letter(yard, 0), ("gone", "a", (0, 0, "a", 0, 0, 3, (("a", "tired"),))))

    def test_back_too_late(self):
        plan = one_lane(2, 2, None, 3)
        for ticks, place in ((1, "lies"), (2, "gone"), (3, "gone")):
            yard = behind(plan, put(), ("take", "a"), *[("tick",)] * ticks, ("back", 0))
            self.assertEqual(place_of_letter(yard, 0)[0], place)
            self.assertEqual(deaths_of(yard, 0), (("a", "old"),) if ticks > 1 else ())

    def test_tired_comes_ahead_of_old(self):
        yard = behind(one_lane(2, 1, None, 1), put(), ("take", "a"), ("tick",), ("back", 0))
        self.assertEqual(deaths_of(yard, 0), (("a", "tired"),))

    def test_back_into_a_full_lane(self):
        yard = behind(one_lane(1, 5, None, 3), put(1), ("take", "a"), put(0), ("back", 0))
        self.assertEqual(yard[2][0], ((0, 1, "a", 0, 0, 1, ()),))
        self.assertEqual(deaths_of(yard, 1), (("a", "full"),))
        yard = behind(one_lane(1, 5, None, 3), put(1), ("take", "a"), put(2), ("back", 0))
        self.assertEqual(deaths_of(yard, 0), (("a", "full"),))

    def test_what_would_be_no_yard(self):
        # In a lane without `dead` nothing may die for a reason for which it died there ahead.
        for why, acts in (
            ("refused", (("take", "a"), ("refuse", 0))), ("tired", (("take", "a"), ("back", 0))),
            ("old", (("tick",), ("tick",))), ("full", (put(3),)),
        ):
            letter = (0, 0, "a", 0, 0, 0, (("a", why),))
            yard = (one_lane(1, 2), 0, ((letter,),), (), (), 1)
            self.assertIs(is_yard(yard), True)
            yard = acted_all(yard, acts[:-1])
            self.assertIs(can_act(yard, acts[-1]), False)
            self.assertRaises(CannotHappen, acted, yard, acts[-1])
            self.assertNotIn(acts[-1], acts_that_can(yard))
            for other in ("refused", "tired", "old", "full"):
                if other != why:
                    fine = acted_all((one_lane(1, 2), 0, ((letter[:6] + ((("a", other),),),),), (), (), 1), acts)
                    self.assertEqual(deaths_of(fine, 0), (("a", other), ("a", why)))


class Ticks(unittest.TestCase):
    def test_at_most_a_thousand(self):
        yard = (PLAN, 999) + fresh_yard(PLAN)[2:]
        self.assertIs(can_act(yard, ("tick",)), True)
        self.assertEqual(acted(yard, ("tick",))[1], 1000)
        self.assertIs(can_act(acted(yard, ("tick",)), ("tick",)), False)

    def test_several_lanes(self):
        plan = (
            ("a", ("x",), 3, 2, "c", 1), ("b", ("x",), 3, 2, "c", 1), ("c", (), 3, 4, None, 1),
        )
        yard = behind(plan, put(1, "x"), put(2, "x"), ("tick",), ("tick",))
        self.assertEqual(yard[2][:2], ((), ()))
        # Laid in the order in which they die: the last one to come finds no room.
        self.assertEqual([letter[0] for letter in yard[2][2]], [2, 3, 0])
        self.assertEqual(place_of_letter(yard, 1)[:2], ("gone", "c"))
        self.assertEqual(deaths_of(yard, 1), (("b", "old"), ("c", "full")))

    def test_laid_into_a_lane_behind_and_one_ahead(self):
        plan = (("a", ("a",), 1, 1, "b", 1), ("b", ("b",), 1, 1, "a", 1))
        yard = behind(plan, put(0, "a"), ("tick",))
        self.assertEqual(place_of_letter(yard, 0), ("lies", "b", (0, 0, "a", 0, 1, 0, (("a", "old"),))))
        yard = behind(plan, put(0, "b"), ("tick",))
        self.assertEqual(place_of_letter(yard, 0), ("lies", "a", (0, 0, "b", 0, 1, 0, (("b", "old"),))))

    def test_those_pushed_out_ahead_of_their_lane(self):
        # What "a" gives to "b" pushes out what would die there, "old", later in the tick.
        plan = (("a", ("a",), 2, 2, "b", 1), ("b", ("b",), 1, 2, None, 1))
        yard = behind(plan, put(0, "b"), put(1, "a"), ("tick",), ("tick",))
        self.assertEqual(deaths_of(yard, 0), (("b", "full"),))
        self.assertEqual(yard[2][1], ((1, 1, "a", 0, 2, 0, (("a", "old"),)),))

    def test_all_are_taken_away_ahead_of_the_first_death(self):
        plan = one_lane(2, 1, "a")
        yard = behind(plan, put(0), put(1), ("tick",))
        self.assertEqual([letter[0] for letter in yard[2][0]], [1, 0])
        self.assertEqual(deaths_in(yard, "a"), (0, 2, 0, 0))
        self.assertEqual([row[1][0] for row in acted(yard, ("tick",))[4]], [1, 0])


class Rows(unittest.TestCase):
    def test_many(self):
        yard = fresh_yard(PLAN)
        self.assertEqual(acted_all(yard, ()), yard)
        self.assertEqual(acted_all(yard, (("tick",),) * 200)[1], 200)
        self.assertRaises(InvalidActs, acted_all, yard, (("tick",),) * 201)

    def test_one_cannot(self):
        for at in range(3):
            acts = (("tick",),) * at + (("take", "fast"),) + (("tick",),) * 2
            self.assertRaises(CannotHappen, acted_all, fresh_yard(PLAN), acts)
        self.assertRaises(InvalidActs, acted_all, fresh_yard(PLAN), (("take", "fast"), ("tick", 1)))


class Arguments(ArgumentChecks, unittest.TestCase):
    def test_wrong_arguments(self):
        yard, world = fresh_yard(PLAN), fresh_world((2, True, True), ("ann", "bob"))
        yards = (yard[:5], replaced(yard, (5,), 1), (), list(yard))
        acts = (("tick", 1), ("take", ""), ("put", 4, "a", 0), ("done", 400), ())
        self.check_arguments(can_act, (yard, ("tick",)), (InvalidYard, InvalidAct), (yards, acts))
        self.check_arguments(acted, (yard, ("tick",)), (InvalidYard, InvalidAct), (yards, acts))
        rows = tuple((("tick",), act) for act in acts) + ([("tick",)], ("tick",))
        self.check_arguments(acted_all, (yard, ()), (InvalidYard, InvalidActs), (yards, rows))
        self.check_arguments(acts_that_can, (yard,), (InvalidYard,), (yards,))
        self.check_arguments(fed, (yard, world), (InvalidYard, InvalidWorld), (yards, (world[:6], ())))

    def test_new_lists(self):
        yard = fresh_yard(PLAN)
        acts_that_can(yard).clear()
        self.assertEqual(acts_that_can(yard), [("tick",)])


if __name__ == "__main__":
    unittest.main()
