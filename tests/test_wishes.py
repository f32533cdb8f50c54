"""[14], [54], and of [3] what meets two wishes: wishes beside one another."""

import random
import unittest
from functools import lru_cache
from itertools import product

from heardonce.errors import InvalidWish, InvalidWishes
from heardonce.names import is_topic, is_wish, meets
from heardonce.wishes import common_wish, is_as_wide, topic_beside
from tests.arguments import ArgumentChecks
from tests.topics import TOPICS, all_wishes, bits, some_wish

LONG = (
    "+/+/+/+/+", "a/b/c/d/#", "+/+/+/+/#", "a/b/c/d/e", "a/b/c/d", "a/b/c/#", "+/b/+/d/#", "a/+/+/+/+", "#", "+/#",
    "+/+/#", "+/+/+/#", "a/#", "z/b/c/d/#", "a/b/c/d/+", "+/+/+/+", "+/b/c/d/e", "+/+/+/d/#",
)
LONG_TOPICS = tuple(
    "/".join(steps) for many in range(1, 6) for steps in product(("a", "b", "c", "d", "e", "z"), repeat=many)
)


@lru_cache(maxsize=None)
def met_by(wish):
    return frozenset(topic for topic in LONG_TOPICS if meets(topic, wish))


class Wider(unittest.TestCase):
    def test_all_short_wishes(self):
        wishes = all_wishes(3)
        for wish, other in product(wishes, repeat=2):
            self.assertIs(is_as_wide(wish, other), bits(other) & ~bits(wish) == 0, (wish, other))

    def test_wishes_of_five_steps(self):
        dice = random.Random(1)
        for _ in range(20000):
            wish, other = some_wish(dice), some_wish(dice)
            self.assertIs(is_as_wide(wish, other), bits(other) & ~bits(wish) == 0, (wish, other))

    def test_where_the_bound_decides(self):
        for wish, other, is_one in (
            ("+/+/+/+/+", "a/b/c/d/#", False), ("+/+/+/+/#", "+/+/+/+/+", True), ("+/+/+/+/+", "+/+/+/+/#", False),
            ("a/b/c/d/#", "a/b/c/d/e", True), ("a/b/c/d/#", "a/b/c/d", True), ("a/b/c/d/+", "a/b/c/d/#", False),
            ("#", "+/+/+/+/#", True), ("+/+/+/+/#", "#", False), ("+/#", "#", True), ("#", "+/#", True),
            ("+/+/#", "+/#", False), ("+/+/+/+/+", "a/b/c/d/e", True), ("a/+/#", "a/#", False),
        ):
            self.assertIs(is_as_wide(wish, other), is_one, (wish, other))

    def test_long_wishes_beside_topics(self):
        for wish, other in product(LONG, repeat=2):
            self.assertIs(is_as_wide(wish, other), met_by(other) <= met_by(wish), (wish, other))


class Common(unittest.TestCase):
    def check_common(self, wish, other):
        common, both = common_wish(wish, other), bits(wish) & bits(other)
        if common is None:
            self.assertEqual(both, 0, (wish, other))
        else:
            self.assertTrue(is_wish(common))
            self.assertEqual(bits(common), both, (wish, other))

    def test_all_short_wishes(self):
        wishes = all_wishes(3)
        for wish, other in product(wishes, repeat=2):
            self.check_common(wish, other)

    def test_wishes_of_five_steps(self):
        dice = random.Random(2)
        for _ in range(20000):
            self.check_common(some_wish(dice), some_wish(dice))

    def test_long_wishes_beside_topics(self):
        for wish, other in product(LONG, repeat=2):
            common = common_wish(wish, other)
            told = frozenset() if common is None else met_by(common)
            self.assertEqual(told, met_by(wish) & met_by(other))
            self.assertIs(common is None, not told)

    def test_other_names(self):
        self.assertEqual(common_wish("abc/+", "+/de"), "abc/de")
        self.assertIsNone(common_wish("abc/+", "ab/de"))
        self.assertEqual(common_wish("#", "#"), "#")
        self.assertEqual(common_wish("a/b/c/d/#", "a/b/c/d"), "a/b/c/d")


class Beside(unittest.TestCase):
    def check_beside(self, wish, others):
        topic = topic_beside(wish, others)
        if topic is None:
            left = bits(wish)
            for other in others:
                left &= ~bits(other)
            self.assertEqual(left, 0, (wish, others))
        else:
            self.assertTrue(is_topic(topic))
            self.assertTrue(meets(topic, wish))
            self.assertFalse(any(meets(topic, other) for other in others), (wish, others))

    def test_rows_of_wishes(self):
        dice = random.Random(3)
        for _ in range(6000):
            self.check_beside(some_wish(dice), tuple(some_wish(dice) for _ in range(dice.randrange(13))))

    def test_wishes_that_leave_little(self):
        tail = ("+/b/#", "+", "+/+", "+/+/+", "+/+/+/+", "+/+/+/+/+")
        for many in range(len(tail) + 1):
            self.check_beside("a/#", tail[:many])
        for left in range(len(tail)):
            self.check_beside("#", tail[:left] + tail[left + 1:])
        self.assertIsNone(topic_beside("#", tail[1:]))
        self.assertEqual(len(topic_beside("#", tail[1:5]).split("/")), 5)

    def test_only_one_alone_is_as_wide(self):
        for wish in all_wishes(2):
            for others in ((), ("a",), ("a", "b"), ("+",), ("a/#", "b/#"), ("+", "+/+/#"), ("#",), ("+/a", "+/b")):
                self.check_beside(wish, others)

    def test_many_names(self):
        names = tuple("abcdefghijklmnopqrstuvwxyz")
        self.assertIsNotNone(topic_beside("+", names[:12]))
        others = tuple("/".join(names[at:at + 5]) for at in range(12))
        topic = topic_beside("+/+/+/+/+", others)
        self.assertFalse(any(meets(topic, other) for other in others))
        ends = tuple("+/" + name for name in names[:11])
        self.assertFalse(any(meets(topic_beside("+/+", ends + ("a/+",)), other) for other in ends + ("a/+",)))
        pairs = tuple(first + second for first in "ab" for second in "abcdef")
        topic = topic_beside("+/+", tuple(name + "/+" for name in pairs))
        self.assertEqual(len(topic.split("/")), 2)
        self.assertNotIn(topic.split("/")[0], pairs)
        self.assertNotIn(topic_beside("+", pairs), pairs)

    def test_same_wish(self):
        for wish in all_wishes(3) + list(LONG):
            self.assertIsNone(topic_beside(wish, (wish,)))
            self.assertTrue(meets(topic_beside(wish, ()), wish))

    def test_topics(self):
        self.assertEqual(len(TOPICS), 363)


class Arguments(ArgumentChecks, unittest.TestCase):
    def test_wrong_arguments(self):
        wishes = ("", "#/a", "a+", "a/b/c/d/e/f", ("a",), ["a"])
        for function in (is_as_wide, common_wish):
            self.check_arguments(function, ("a/#", "+"), (InvalidWish, InvalidWish), (wishes, wishes))
        self.check_arguments(
            topic_beside, ("a/#", ("+",)), (InvalidWish, InvalidWishes),
            (wishes, ("a", ["a"], ("a",) * 13, ("a", ""), ("a", "#/a"), ("a", None))),
        )
        self.assertIsNone(topic_beside("a", ("a",) * 12))


if __name__ == "__main__":
    unittest.main()
