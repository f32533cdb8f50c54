"""[45], [46], [83]: tales, told on, told back and led to calm."""

import random
import unittest

from heardonce.errors import (
    CannotHappen, InvalidEvents, InvalidNumber, InvalidTale, InvalidWorld, TooMany,
)
from heardonce.events import can_happen, happened, happened_all
from heardonce.lifetales import calm_event, harms_of, is_tale, led_calm, told_back, told_on, world_of
from heardonce.worlds import fresh_world
from tests.arguments import ArgumentChecks
from tests.runs import CALM, HARSH, MANNERS, NAMES, some_run
from tests.values import ODD_VALUES, bent, replaced

EVENTS = (("wish", "bob", "a/#", "paired"), ("give", "ann", "paired", "a/b", 7), ("stop", ""), ("write", "ann"))
TALE = ((2, True, True), ("ann", "bob"), EVENTS)
LOSE = ("lose", "ann", "coming", 0)
WRITE = ("write", "")


def of_writes(many):
    return TALE[:2] + ((WRITE,) * many,)


def calm_told(world):
    """The calm event, by trying all of [46] one by one."""
    names = [client[0] for client in world[1]]
    choices = []
    for name in names:
        choices += [("arrive", name, "coming"), ("arrive", name, "going")]
    choices += [("pass", name) for name in names]
    for at, name in enumerate(names):
        choices += [("again", name, "coming", entry[0]) for entry in world[1][at][1][0]]
        choices += [("again", name, "going", entry[0]) for entry in world[2][at][2][0]]
    for event in choices:
        if can_happen(world, event):
            return event
    return None


class Tales(unittest.TestCase):
    def test_tales(self):
        for tale in (TALE, TALE[:2] + ((),), of_writes(200), ((8, False, False), ("a", "b", "c", "d"), ())):
            self.assertIs(is_tale(tale), True)

    def test_other_kinds(self):
        for value in bent(TALE) + list(ODD_VALUES) + [TALE[:2], TALE + ((),), list(TALE), ()]:
            self.assertIs(is_tale(value), False, value)

    def test_bounds(self):
        for path, value, is_one in (
            ((0, 0), 8, True), ((0, 0), 9, False), ((0, 0), 0, False), ((0, 0), 1, True), ((0, 1), False, True),
            ((0, 1), 0, False), ((0,), (2, True), False), ((1,), ("bob", "ann"), False), ((1,), ("ann",), False),
            ((1,), ("ann", "ann", "bob"), False), ((1,), ("ann", "bob", "cid", "dan"), True),
            ((1,), ("ann", "bob", "cid", "dan", "eve"), False), ((1,), (), False), ((2,), EVENTS[::-1], True),
            ((2, 0, 1), "cid", False), ((2, 1), LOSE, False), ((2, 3), LOSE, False), ((2, 2), LOSE, True),
            ((2, 1, 4), 1000, False), ((2, 0), ("pass", "bob"), False), ((2, 2), ("arrive", "ann", "going"), False),
        ):
            self.assertIs(is_tale(replaced(TALE, path, value)), is_one, (path, value))

    def test_events_that_cannot_happen_any_more(self):
        for at in range(5):
            events = EVENTS[:at] + (("again", "ann", "coming", 0),) + EVENTS[at:]
            self.assertIs(is_tale(TALE[:2] + (events,)), at >= 2)

    def test_many(self):
        self.assertIs(is_tale(of_writes(201)), False)

    def test_drawn_rows(self):
        dice = random.Random(45)
        for manner in MANNERS:
            events, model = some_run(dice, manner, 60, HARSH)
            tale = (manner, NAMES, events)
            self.assertIs(is_tale(tale), True)
            self.assertEqual(world_of(tale), model.world())
            self.assertEqual(world_of(tale), happened_all(fresh_world(manner, NAMES), events))


class Told(unittest.TestCase):
    def test_on(self):
        self.assertEqual(told_on(TALE[:2] + (EVENTS[:2],), EVENTS[2:]), TALE)
        self.assertEqual(told_on(TALE, ()), TALE)
        for at in range(3):
            events = (WRITE,) * at + (("pass", "bob"), WRITE)
            self.assertRaises(CannotHappen, told_on, TALE, events)

    def test_cannot_happen_comes_ahead_of_too_many(self):
        tale = of_writes(199)
        self.assertEqual(told_on(tale, (WRITE,)), of_writes(200))
        for events in ((WRITE,) * 2, (WRITE,) * 200):
            with self.assertRaises(TooMany) as caught:
                told_on(tale, events)
            self.assertEqual(caught.exception.limit, 200)
        self.assertRaises(CannotHappen, told_on, tale, (WRITE,) * 199 + (LOSE,))
        self.assertRaises(InvalidEvents, told_on, tale, (WRITE,) * 201)
        self.assertRaises(InvalidEvents, told_on, tale, (LOSE, ("pass",)))

    def test_back(self):
        for many in range(5):
            self.assertEqual(told_back(TALE, many), TALE[:2] + (EVENTS[:4 - many],))
        for many in (5, -1, True, None, "1", 200):
            self.assertRaises(InvalidNumber, told_back, TALE, many)
        self.assertEqual(told_back(of_writes(0), 0), of_writes(0))
        self.assertRaises(InvalidNumber, told_back, of_writes(0), 1)

    def test_taken_back_and_told_on_again(self):
        dice = random.Random(46)
        for manner in MANNERS:
            events, model = some_run(dice, manner, 40, HARSH)
            tale = (manner, NAMES, events)
            for many in range(len(events) + 1):
                short = told_back(tale, many)
                self.assertEqual(told_on(short, events[len(events) - many:]), tale)
            self.assertEqual(world_of(tale), model.world())

    def test_harms(self):
        dice = random.Random(47)
        words = set()
        for manner in MANNERS:
            events, _ = some_run(dice, manner, 200, HARSH)
            tale = (manner, NAMES, events)
            want = [at for at, event in enumerate(events) if event[0] in ("lose", "double", "turn", "stop")]
            self.assertEqual(harms_of(tale), want)
            words.update(event[0] for event in events)
        self.assertEqual(len(words), 11)
        self.assertEqual((harms_of(TALE), harms_of(of_writes(3))), ([2], []))


class Calm(unittest.TestCase):
    def test_beside_the_events_tried_in_their_order(self):
        dice = random.Random(48)
        words = set()
        for weights in (HARSH, CALM, {**HARSH, "lose": 12}):
            for manner in MANNERS:
                for _ in range(6):
                    _, model = some_run(dice, manner, 30, weights)
                    world = model.world()
                    event = calm_event(world)
                    self.assertEqual(event, calm_told(world))
                    words.add(event and event[0])
        self.assertEqual(words, {"arrive", "pass", "again", None})

    def test_order(self):
        names = ("ann", "bob")
        world = happened_all(fresh_world((3, True, True), names), (
            ("give", "bob", "marked", "a", 1), ("give", "bob", "paired", "a", 2), ("wish", "bob", "#", "paired"),
        ))
        self.assertEqual(calm_event(world), ("arrive", "bob", "coming"))
        behind = happened(world, ("arrive", "bob", "coming"))
        self.assertEqual(calm_event(behind), ("arrive", "bob", "coming"))
        lost = happened_all(behind, (("lose", "bob", "coming", 0), ("lose", "bob", "going", 0)))
        self.assertEqual(calm_event(lost), ("pass", "bob"))
        passed = happened_all(lost, (("pass", "bob"), ("lose", "bob", "going", 0)))
        self.assertEqual(calm_event(passed), ("again", "bob", "coming", 0))
        given = happened(passed, ("give", "ann", "marked", "b", 3))
        self.assertEqual(calm_event(given), ("arrive", "ann", "coming"))
        self.assertEqual(calm_event(happened(given, ("lose", "ann", "coming", 0))), ("again", "ann", "coming", 0))

    def test_entries_of_sessions(self):
        books = (((1, "marked", "sent", "a", 5), (2, "paired", "let", "a", 6)), (0,), (("light", "a", 1),))
        for ahead in (False, True):
            fresh = fresh_world((3, ahead, True), ("ann", "bob"))
            # What stands in the log alone is not told again.
            self.assertIsNone(calm_event(replaced(fresh, (2, 1, 3), books[:2] + ((),))))
            world = replaced(fresh, (2, 1, 2), books[:2] + ((),))
            self.assertEqual(calm_event(world), ("again", "bob", "going", 1))
            self.assertEqual(calm_event(replaced(world, (2, 1, 2, 0), books[0][1:])), ("again", "bob", "going", 2))
            self.assertEqual(calm_event(replaced(fresh, (2, 1, 2), books)), ("pass", "bob"))
            # A client comes ahead of its session, and both ahead of the next ones.
            both = replaced(world, (1, 1, 1), ((books[0][1],), ()))
            self.assertEqual(calm_event(both), ("again", "bob", "coming", 2))
            self.assertEqual(calm_event(replaced(both, (2, 0, 2), books[:2] + ((),))), ("again", "ann", "going", 1))

    def test_what_cannot_happen_is_passed_over(self):
        world = happened_all(fresh_world((8, True, False), ("ann",)), (("give", "ann", "marked", "a", 1),))
        full = happened_all(world, (("double", "ann", "coming", 0),) * 11)
        busy = replaced(full, (3, 0, 2), (("done", 0),) * 12)
        # The word can't arrive, as its answer would be the thirteenth frame.
        self.assertEqual(calm_event(busy), ("arrive", "ann", "going"))

    def test_none(self):
        self.assertIsNone(calm_event(fresh_world((1, True, True), ("a",))))


class Led(unittest.TestCase):
    def test_so_many(self):
        tale = TALE[:2] + (EVENTS[:2],)
        whole = led_calm(tale, 200)
        self.assertEqual(len(whole[2]), 11)
        for most in range(12):
            self.assertEqual(led_calm(tale, most), whole[:2] + (whole[2][:2 + most],))
        self.assertIsNone(calm_event(world_of(whole)))
        self.assertEqual(led_calm(whole, 200), whole)

    def test_step_by_step(self):
        dice = random.Random(49)
        for manner in MANNERS:
            events, _ = some_run(dice, manner, 40, HARSH)
            tale = (manner, NAMES, events)
            for most in (0, 1, 7, 30):
                led, many = tale, 0
                while many < most and calm_event(world_of(led)) is not None and len(led[2]) < 200:
                    led, many = told_on(led, (calm_event(world_of(led)),)), many + 1
                self.assertEqual(led_calm(tale, most), led)

    def test_two_hundred_events(self):
        # Each turn of a ring of one goes on as long as its word is anew on the line.
        tale = told_on(of_writes(190), (("give", "ann", "paired", "a", 1),))
        self.assertEqual(len(led_calm(tale, 200)[2]), 195)
        tale = told_on(of_writes(197), (("give", "ann", "paired", "a", 1),))
        self.assertEqual(len(led_calm(tale, 200)[2]), 200)
        self.assertEqual(len(led_calm(tale, 1)[2]), 199)
        self.assertEqual(led_calm(of_writes(200), 5), of_writes(200))

    def test_numbers(self):
        self.assertEqual(led_calm(TALE, 0), TALE)
        for most in (-1, 201, True, None):
            self.assertRaises(InvalidNumber, led_calm, TALE, most)


class Arguments(ArgumentChecks, unittest.TestCase):
    def test_wrong_arguments(self):
        tales, events = (TALE[:2], replaced(TALE, (2, 0), LOSE), ()), ((("pass",),), WRITE, [WRITE], (WRITE,) * 201)
        for function in (world_of, harms_of):
            self.check_arguments(function, (TALE,), (InvalidTale,), (tales,))
        self.check_arguments(told_on, (TALE, ()), (InvalidTale, InvalidEvents), (tales, events))
        self.check_arguments(told_back, (TALE, 0), (InvalidTale, InvalidNumber), (tales, (5, -1)))
        self.check_arguments(led_calm, (TALE, 0), (InvalidTale, InvalidNumber), (tales, (201, -1)))
        self.check_arguments(calm_event, (world_of(TALE),), (InvalidWorld,), ((TALE, ()),))

    def test_new_lists(self):
        harms_of(TALE).clear()
        self.assertEqual(harms_of(TALE), [2])


if __name__ == "__main__":
    unittest.main()
