"""[86]: stories."""

import random
import unittest

from heardonce.errors import CannotHappen, InvalidEvent, InvalidNumber, InvalidTale, InvalidText, TooMany
from heardonce.events import can_happen, happened_all, is_event
from heardonce.lifebenches import Bench
from heardonce.lifetales import led_calm, told_back
from heardonce.lifetexts import tale_text
from heardonce.lifevalues import Story
from heardonce.worlds import faults_of, fresh_world, is_at_rest
from tests.model import all_named_events
from tests.runs import HARSH, MANNERS, NAMES, some_run
from tests.values import ODD_VALUES, bent, replaced

EVENTS = (("wish", "bob", "a/#", "paired"), ("give", "ann", "paired", "a/b", 7))
TALE = ((2, True, True), ("ann", "bob"), EVENTS)
WRITE, LOSE = ("write", ""), ("lose", "ann", "coming", 0)


def of_writes(many):
    return TALE[:2] + ((WRITE,) * many,)


def some_tale(dice, many=30):
    manner = dice.choice(MANNERS)
    return (manner, NAMES, some_run(dice, manner, many, HARSH)[0])


class Made(unittest.TestCase):
    def test_of_tales(self):
        for tale in (TALE, of_writes(0), of_writes(200)):
            self.assertEqual(Story(tale).tale, tale)
        wrong = [of_writes(201), Story(TALE), TALE[:2] + (EVENTS + (LOSE,) * 2,)]
        for value in list(bent(TALE)) + list(ODD_VALUES) + wrong:
            with self.assertRaises(InvalidTale, msg=value) as caught:
                Story(value)
            self.assertIs(type(caught.exception), InvalidTale)

    def test_of_texts(self):
        story = Story.read(tale_text(TALE))
        self.assertIsInstance(story, Story)
        self.assertEqual(story.tale, TALE)
        for value in list(ODD_VALUES) + [TALE, Story(TALE), "", tale_text(TALE) + "\n", tale_text(TALE)[:-1] + " 7"]:
            with self.assertRaises(InvalidText, msg=value):
                Story.read(value)

    def test_properties(self):
        dice = random.Random(86)
        for _ in range(60):
            tale = some_tale(dice)
            story, world = Story(tale), happened_all(fresh_world(tale[0], tale[1]), tale[2])
            self.assertEqual((story.tale, story.world), (tale, world))
            self.assertIs(story.rest, is_at_rest(world))
            self.assertEqual(story.faults, tuple(faults_of(world)))
            self.assertIs(bool(story), not faults_of(world))
            self.assertEqual(len(story), len(tale[2]))
            self.assertEqual(str(story), tale_text(tale))

    def test_properties_are_not_assigned(self):
        story = Story(TALE)
        for name in ("tale", "world", "rest", "faults"):
            with self.assertRaises(AttributeError):
                setattr(story, name, None)
        self.assertIsInstance(story.faults, tuple)


class Added(unittest.TestCase):
    def test_event(self):
        story = Story(TALE)
        more = story + WRITE
        self.assertEqual((story.tale, len(story)), (TALE, 2))
        self.assertEqual(more.tale, TALE[:2] + (EVENTS + (WRITE,),))
        self.assertEqual((more + LOSE).tale[2], EVENTS + (WRITE, LOSE))
        self.assertEqual((story + LOSE).world, happened_all(story.world, (LOSE,)))

    def test_changed_itself(self):
        story = other = Story(TALE)
        story += WRITE
        self.assertIs(story, other)
        self.assertEqual(other.tale[2], EVENTS + (WRITE,))
        story += LOSE
        self.assertIs(story, other)
        self.assertEqual(story.world, happened_all(Story(TALE).world, (WRITE, LOSE)))
        self.assertEqual((story.rest, len(story)), (Story(story.tale).rest, 4))

    def check_errors(self, tale, event, error):
        story = other = Story(tale)
        with self.assertRaises(error):
            story + event
        with self.assertRaises(error):
            story += event
        self.assertIs(story, other)
        self.assertEqual((other.tale, other.world), (tale, Story(tale).world))

    def test_errors(self):
        for value in list(bent(LOSE)) + list(ODD_VALUES) + [Story(TALE), (WRITE,), LOSE[:3]]:
            if not is_event(value):
                self.check_errors(TALE, value, InvalidEvent)
        for event in (("pass", "bob"), ("lose", "ann", "coming", 1), ("pass", "cid"), ("unwish", "ann", "#")):
            self.check_errors(TALE, event, CannotHappen)

    def test_errors_in_their_order(self):
        whole = of_writes(200)
        self.check_errors(whole, ("writes", ""), InvalidEvent)
        self.check_errors(whole, LOSE, CannotHappen)
        self.check_errors(whole, WRITE, TooMany)
        with self.assertRaises(TooMany) as caught:
            Story(whole) + WRITE
        self.assertEqual(caught.exception.limit, 200)
        self.assertEqual((Story(of_writes(199)) + WRITE).tale, whole)


class Shifted(unittest.TestCase):
    def test_back_and_calm(self):
        dice = random.Random(87)
        for _ in range(30):
            tale = some_tale(dice)
            story = Story(tale)
            for many in sorted({0, len(tale[2]) // 3, len(tale[2]) // 2, len(tale[2])}):
                self.assertEqual((story << many).tale, told_back(tale, many))
                self.assertEqual((story << many).world, Story(told_back(tale, many)).world)
            for most in (0, 1, 5, 200):
                self.assertEqual((story >> most).tale, led_calm(tale, most))
            self.assertEqual((story.tale, story.world), (tale, Story(tale).world))

    def test_new_ones(self):
        story = Story(TALE)
        for other in (story << 0, story >> 0):
            self.assertEqual(other, story)
            self.assertIsNot(other, story)
            other += WRITE
            self.assertEqual(story.tale, TALE)

    def test_errors(self):
        story = Story(TALE)
        for value in ODD_VALUES + (3, -1, 201, "1", (1,), story):
            with self.assertRaises(InvalidNumber, msg=value):
                story << value
        for value in ODD_VALUES + (-1, 201, "1", (1,), story):
            with self.assertRaises(InvalidNumber, msg=value):
                story >> value
        self.assertEqual(story.tale, TALE)


class Looked(unittest.TestCase):
    def test_indices(self):
        story = Story(TALE)
        self.assertEqual([story[0], story[1]], list(EVENTS))
        for value in ODD_VALUES + (2, -1, -2, 200, "0", (0,), story, slice(0, 1)):
            with self.assertRaises(InvalidNumber, msg=value):
                story[value]
        for index in (0, -1, True, False):
            with self.assertRaises(InvalidNumber):
                Story(of_writes(0))[index]

    def test_in(self):
        dice = random.Random(88)
        for _ in range(20):
            tale = some_tale(dice)
            story = Story(tale)
            events = all_named_events(NAMES) + [("give", "ann", "paired", "a", 0), ("unwish", "bob", "#")]
            for event in dice.sample(events, 80):
                self.assertIs(event in story, can_happen(story.world, event))
        for value in list(ODD_VALUES) + list(bent(LOSE)) + [story, TALE, EVENTS]:
            if not is_event(value):
                self.assertIs(value in story, False)
        # What can happen there can, though no more than 200 events are told.
        self.assertIs(WRITE in Story(of_writes(200)), True)

    def test_iterating(self):
        story = Story(TALE)
        for function in (iter, list, tuple, sorted, set):
            with self.assertRaises(TypeError):
                function(story)
        with self.assertRaises(TypeError):
            for _ in story:
                self.fail()
        with self.assertRaises(TypeError):
            first, *_ = story

    def test_truth(self):
        self.assertIs(bool(Story(of_writes(0))), True)
        self.assertIs(bool(Story(TALE)), False)
        self.assertIs(bool(Story(TALE) >> 50), True)


class Equal(unittest.TestCase):
    def test_stories(self):
        story = Story(TALE)
        self.assertTrue(story == Story(TALE))
        self.assertFalse(story != Story(TALE))
        self.assertTrue(story == Story.read(str(story)))
        for other in (of_writes(2), replaced(TALE, (0, 0), 3), replaced(TALE, (0, 2), False), TALE[:2] + (EVENTS[:1],)):
            self.assertFalse(story == Story(other))
            self.assertTrue(story != Story(other))

    def test_same_worlds_of_unlike_tales(self):
        one, other = Story(of_writes(1)), Story(of_writes(2))
        self.assertEqual(one.world, other.world)
        self.assertFalse(one == other)

    def test_other_values(self):
        story = Story(TALE)
        for value in ODD_VALUES + (TALE, str(story), Bench(TALE), 0, EVENTS):
            self.assertFalse(story == value)
            self.assertTrue(story != value)
            self.assertFalse(value == story)

    def test_changed(self):
        one, other = Story(TALE), Story(TALE)
        one += WRITE
        self.assertFalse(one == other)
        self.assertTrue(one == other + WRITE)
        self.assertTrue(one << 1 == other)


if __name__ == "__main__":
    unittest.main()
