"""[87]: benches."""

import random
import unittest
from itertools import product

from heardonce.errors import (
    CannotHappen, HeardError, InvalidEvent, InvalidEvents, InvalidTale, NothingToRedo, NothingToUndo, TooMany,
)
from heardonce.events import can_happen, is_event
from heardonce.lifebenches import Bench
from heardonce.lifetales import told_on, world_of
from heardonce.lifetexts import event_text
from heardonce.lifevalues import Story
from heardonce.worlds import faults_of, is_at_rest
from tests.model import all_named_events
from tests.runs import HARSH, MANNERS, NAMES, some_run
from tests.values import ODD_VALUES, bent

EVENTS = (("wish", "bob", "a/#", "paired"), ("give", "ann", "paired", "a/b", 7))
TALE = ((2, True, True), ("ann", "bob"), EVENTS)
EMPTY = ((1, True, True), ("a",), ())
WRITE, LOSE, STOP = ("write", ""), ("lose", "ann", "coming", 0), ("stop", "")


class Failed(Exception):
    """An action ends with an error."""


class Told:
    """A second telling: a list of tales, and the place of the tale that is there now."""

    def __init__(self, tale):
        self.tales, self.at = [tale], 0

    def tale(self):
        return self.tales[self.at]

    def tell(self, events):
        tale = told_on(self.tale(), events)
        self.tales, self.at = self.tales[:self.at + 1] + [tale], self.at + 1

    def move(self, by):
        if not 0 <= self.at + by < len(self.tales):
            raise NothingToUndo("x") if by < 0 else NothingToRedo("x")
        self.at += by


def shown(bench):
    """All that there is to see of a bench, of what can be taken back and done again, too."""
    tales = [bench.tale]
    many = undone = 0
    while len(bench):
        bench.undo()
        many += 1
        tales.insert(0, bench.tale)
    for _ in range(many):
        bench.redo()
    while True:
        try:
            bench.redo()
        except NothingToRedo:
            break
        undone += 1
        tales.append(bench.tale)
    for _ in range(undone):
        bench.undo()
    return (many, undone, tales, bench.tale, bench.world)


class Made(unittest.TestCase):
    def test_of_tales(self):
        bench = Bench(TALE)
        self.assertEqual((bench.tale, bench.world, len(bench)), (TALE, world_of(TALE), 0))
        for value in list(bent(TALE)) + list(ODD_VALUES) + [Story(TALE), TALE[:2], TALE[:2] + ((WRITE,) * 201,)]:
            with self.assertRaises(InvalidTale, msg=value):
                Bench(value)

    def test_properties(self):
        dice = random.Random(87)
        for _ in range(40):
            manner = dice.choice(MANNERS)
            tale = (manner, NAMES, some_run(dice, manner, 30, HARSH)[0])
            bench, world = Bench(tale), world_of(tale)
            self.assertEqual((bench.tale, bench.world), (tale, world))
            self.assertEqual(bench.faults, tuple(faults_of(world)))
            self.assertIsInstance(bench.faults, tuple)
            self.assertIs(bool(bench), is_at_rest(world))
            for event in dice.sample(all_named_events(NAMES), 40):
                self.assertIs(event in bench, can_happen(world, event))

    def test_properties_are_not_assigned(self):
        for name in ("tale", "world", "faults"):
            with self.assertRaises(AttributeError):
                setattr(Bench(TALE), name, None)

    def test_in_for_any_value(self):
        for value in list(ODD_VALUES) + list(bent(LOSE)) + [TALE, EVENTS, Bench(TALE)]:
            if not is_event(value):
                self.assertIs(value in Bench(TALE), False)
        self.assertIs(WRITE in Bench(TALE[:2] + ((WRITE,) * 200,)), True)


class Done(unittest.TestCase):
    def test_do(self):
        bench = Bench(TALE)
        self.assertIs(bench.do(WRITE), False)
        self.assertIs(bench.do(LOSE), True)
        self.assertEqual((bench.tale[2], len(bench)), (EVENTS + (WRITE, LOSE), 2))
        self.assertEqual(bench.world, world_of(bench.tale))

    def test_do_without_ahead(self):
        bench = Bench(((2, False, True),) + TALE[1:])
        self.assertIs(bench.do(("write", "ann")), True)
        self.assertIs(bench.do(("write", "ann")), False)

    def test_in_place(self):
        bench = other = Bench(TALE)
        bench += (WRITE, LOSE)
        self.assertIs(bench, other)
        self.assertEqual((bench.tale[2], len(bench)), (EVENTS + (WRITE, LOSE), 1))
        bench += ()
        self.assertEqual(len(bench), 2)
        bench.undo()
        self.assertEqual(bench.tale[2], EVENTS + (WRITE, LOSE))
        bench.undo()
        self.assertEqual(bench.tale, TALE)
        self.assertIs(bench, other)

    def check_do(self, bench, event, error):
        ahead = shown(bench)
        with self.assertRaises(error) as caught:
            bench.do(event)
        self.assertIs(type(caught.exception), error)
        self.assertEqual(shown(bench), ahead)

    def check_in_place(self, bench, events, error):
        ahead, other = shown(bench), bench
        with self.assertRaises(error) as caught:
            bench += events
        self.assertIs(type(caught.exception), error)
        self.assertIs(bench, other)
        self.assertEqual(shown(bench), ahead)

    def some_bench(self):
        bench = Bench(TALE)
        bench += (WRITE, WRITE)
        bench.do(STOP)
        bench.do(WRITE)
        bench.undo()
        bench.undo()
        return bench

    def test_errors_of_do(self):
        bench = self.some_bench()
        for value in list(ODD_VALUES) + list(bent(LOSE)) + [(WRITE,), EVENTS]:
            if not is_event(value):
                self.check_do(bench, value, InvalidEvent)
        for event in (("pass", "bob"), ("lose", "ann", "coming", 1), ("pass", "cid")):
            self.check_do(bench, event, CannotHappen)
        whole = Bench(TALE[:2] + ((WRITE,) * 199,))
        whole.do(WRITE)
        for event, error in ((("writes", ""), InvalidEvent), (LOSE, CannotHappen), (WRITE, TooMany)):
            self.check_do(whole, event, error)

    def test_errors_of_in_place(self):
        bench = self.some_bench()
        for value in list(ODD_VALUES) + [WRITE, [WRITE], (WRITE, ("writes", "")), (WRITE,) * 201, Story(TALE)]:
            self.check_in_place(bench, value, InvalidEvents)
        for events in ((LOSE, LOSE), (WRITE, ("pass", "bob"), WRITE), (WRITE,) * 199 + (("pass", "bob"),)):
            self.check_in_place(bench, events, CannotHappen)
        self.check_in_place(bench, (WRITE,) * 197, TooMany)
        bench += (WRITE,) * 196
        self.assertEqual(len(bench.tale[2]), 200)
        self.check_in_place(bench, (WRITE,), TooMany)
        self.check_in_place(bench, (("pass", "bob"),), CannotHappen)
        bench += ()
        self.assertEqual(len(bench), 3)


class UndoRedo(unittest.TestCase):
    def test_nothing(self):
        bench = Bench(TALE)
        self.assertRaises(NothingToUndo, bench.undo)
        self.assertRaises(NothingToRedo, bench.redo)
        bench.do(WRITE)
        self.assertRaises(NothingToRedo, bench.redo)
        self.assertIsNone(bench.undo())
        self.assertRaises(NothingToUndo, bench.undo)
        self.assertIsNone(bench.redo())
        self.assertRaises(NothingToRedo, bench.redo)
        self.assertEqual(bench.tale[2], EVENTS + (WRITE,))

    def test_nothing_is_done_again_behind_another_call(self):
        for call in ("do", "in place", "empty"):
            bench = Bench(TALE)
            bench.do(WRITE)
            bench.undo()
            if call == "do":
                bench.do(STOP)
            elif call == "in place":
                bench += (STOP,)
            else:
                bench += ()
            self.assertRaises(NothingToRedo, bench.redo)
            bench.undo()
            bench.redo()
            self.assertRaises(NothingToRedo, bench.redo)
            self.assertEqual(bench.tale[2], EVENTS + (() if call == "empty" else (STOP,)))

    def test_all_rows_of_calls(self):
        calls = (
            ("do", (WRITE,)), ("do", (LOSE,)), ("add", (WRITE, STOP)), ("add", (LOSE, WRITE)), ("undo", ()),
            ("redo", ()),
        )
        for many in range(1, 6):
            for row in product(calls, repeat=many):
                bench, told = Bench(TALE), Told(TALE)
                for word, events in row:
                    self.check_call(bench, told, word, events)
                self.assertEqual((bench.tale, len(bench)), (told.tale(), told.at))

    def test_rows_by_chance(self):
        dice = random.Random(88)
        for _ in range(60):
            bench, told = Bench(TALE), Told(TALE)
            for _ in range(40):
                word = dice.choice(("do", "do", "add", "undo", "undo", "redo"))
                events = tuple(dice.choice((WRITE, STOP, LOSE, ("write", "ann"))) for _ in range(dice.randrange(3)))
                self.check_call(bench, told, word, (events or (WRITE,))[:1] if word == "do" else events)
                self.assertEqual((bench.tale, len(bench)), (told.tale(), told.at))
                self.assertEqual(bench.world, world_of(told.tale()))
            self.assertEqual(shown(bench)[:3], (told.at, len(told.tales) - 1 - told.at, told.tales))

    def check_call(self, bench, told, word, events):
        """Do a call on a bench and in the other telling: both are done, or end with the same error."""
        error, ahead = None, told.tale()
        try:
            if word in ("do", "add"):
                told.tell(events)
            else:
                told.move(-1 if word == "undo" else 1)
        except HeardError as caught:
            error = type(caught)
        try:
            if word == "do":
                self.assertIs(bench.do(events[0]), world_of(ahead) != world_of(told.tale()))
            elif word == "add":
                bench += events
            else:
                self.assertIsNone(getattr(bench, word)())
            self.assertIsNone(error)
        except HeardError as caught:
            self.assertIs(type(caught), error)


class Attempts(unittest.TestCase):
    def some_bench(self):
        bench = Bench(TALE)
        for event in (WRITE, STOP, ("write", "ann")):
            bench.do(event)
        bench.undo()
        return bench

    def calls(self, bench):
        bench.do(WRITE)
        bench += (WRITE, STOP)
        bench.undo()
        bench.undo()
        bench.redo()
        bench.undo()
        bench.undo()

    def test_returns(self):
        bench = self.some_bench()
        for value in (None, 0, [], "a", bench, (bench,)):
            self.assertIs(bench.attempt(lambda _, told=value: told), value)
        self.assertIs(bench.attempt(lambda given: given), bench)
        self.assertIs(bench.attempt(lambda given: given.do(STOP)), False)
        self.assertEqual(bench.tale[2], EVENTS + (WRITE, STOP, STOP))
        self.assertEqual(len(bench), 3)

    def test_calls_can_be_taken_back_one_by_one(self):
        bench = self.some_bench()
        bench.attempt(self.calls)
        self.assertEqual(len(bench), 1)
        bench.redo()
        bench.redo()
        self.assertEqual(bench.tale[2], EVENTS + (WRITE, STOP, WRITE))

    def test_errors(self):
        def failing(many):
            def action(bench):
                steps = (
                    lambda: bench.do(WRITE), lambda: bench.__iadd__((WRITE, STOP)), bench.undo, bench.undo, bench.undo,
                    bench.redo, lambda: bench.do(STOP), lambda: bench.undo(),
                )
                for step in steps[:many]:
                    step()
                raise Failed
            return action
        for many in range(9):
            bench = self.some_bench()
            ahead = shown(bench)
            self.assertRaises(Failed, bench.attempt, failing(many))
            self.assertEqual(shown(bench), ahead, many)
            self.assertIs(type(ahead), tuple)

    def test_errors_of_the_bench_go_on(self):
        bench = self.some_bench()
        ahead = shown(bench)
        for action, error in (
            (lambda given: (given.do(WRITE), given.do(("pass", "bob"))), CannotHappen),
            (lambda given: (given.do(WRITE), given.do(None)), InvalidEvent),
            (lambda given: (given.do(WRITE), given.redo()), NothingToRedo),
            (lambda given: [given.undo() for _ in range(9)], NothingToUndo),
            (lambda given: (given.undo(), 1 // 0), ZeroDivisionError), (lambda: None, TypeError), (None, TypeError),
        ):
            with self.assertRaises(error):
                bench.attempt(action)
            self.assertEqual(shown(bench), ahead)

    def test_errors_that_no_exception_is(self):
        def action(bench):
            bench.do(STOP)
            raise KeyboardInterrupt
        bench = self.some_bench()
        ahead = shown(bench)
        with self.assertRaises(KeyboardInterrupt):
            bench.attempt(action)
        self.assertEqual(shown(bench), ahead)

    def test_attempts_within_attempts(self):
        def inner(bench):
            bench.undo()
            bench.do(WRITE)
            raise Failed

        def outer(bench):
            bench.do(STOP)
            try:
                bench.attempt(inner)
            except Failed:
                bench.do(("write", "bob"))
            return len(bench)

        def worst(bench):
            outer(bench)
            bench.attempt(inner)

        bench = self.some_bench()
        self.assertEqual(bench.attempt(outer), 4)
        self.assertEqual(bench.tale[2], EVENTS + (WRITE, STOP, STOP, ("write", "bob")))
        ahead = shown(bench)
        self.assertRaises(Failed, bench.attempt, worst)
        self.assertEqual(shown(bench), ahead)


class Lines(unittest.TestCase):
    def test_texts(self):
        dice = random.Random(89)
        for manner in MANNERS:
            tale = (manner, NAMES, some_run(dice, manner, 60, HARSH)[0])
            want = [
                event_text(event) + ("*" if event[0] in ("lose", "double", "turn", "stop") else "") for event in tale[2]
            ]
            self.assertEqual(list(Bench(tale).lines()), want)

    def test_one_by_one(self):
        lines = Bench(TALE).lines()
        self.assertEqual(next(lines), "wish bob a/# paired")
        self.assertEqual(next(lines), "give ann paired a/b 7")
        self.assertRaises(StopIteration, next, lines)
        self.assertEqual(list(Bench(EMPTY).lines()), [])

    def test_while_the_bench_changes(self):
        bench = Bench(TALE)
        lines = bench.lines()
        next(lines)
        bench.do(STOP)
        self.assertEqual(list(lines), ["give ann paired a/b 7"])
        self.assertEqual(list(bench.lines())[2:], ["stop -*"])
        lines = bench.lines()
        next(lines)
        bench.undo()
        self.assertEqual(list(lines), ["give ann paired a/b 7", "stop -*"])
        self.assertEqual(len(list(bench.lines())), 2)

    def test_two_at_once(self):
        bench = Bench(TALE)
        self.assertEqual(list(zip(bench.lines(), bench.lines()))[0], ("wish bob a/# paired",) * 2)


class Equal(unittest.TestCase):
    def test_benches(self):
        one, other = Bench(TALE), Bench(TALE[:2] + (EVENTS[:1],))
        self.assertFalse(one == other)
        self.assertTrue(one != other)
        other.do(EVENTS[1])
        # What can be taken back does not matter.
        self.assertTrue(one == other)
        self.assertFalse(one != other)
        other.undo()
        self.assertFalse(one == other)

    def test_other_values(self):
        bench = Bench(TALE)
        for value in [one for one in ODD_VALUES if not isinstance(one, Bench)] + [TALE, Story(TALE), 0, EVENTS]:
            self.assertFalse(bench == value)
            self.assertTrue(bench != value)
            self.assertFalse(value == bench)

    def test_truth(self):
        self.assertIs(bool(Bench(EMPTY)), True)
        self.assertIs(bool(Bench(TALE)), False)
        bench = Bench(TALE)
        bench += (("arrive", "ann", "coming"), ("arrive", "ann", "going")) * 2
        self.assertIs(bool(bench), False)
        bench += (("pass", "bob"),) + (("arrive", "bob", "going"), ("arrive", "bob", "coming")) * 2
        self.assertIs(bool(bench), True)


if __name__ == "__main__":
    unittest.main()
