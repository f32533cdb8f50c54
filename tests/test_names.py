"""[4] and [49]: names, topics, wishes, bodies and ways."""

import re
import unittest
from itertools import product

from heardonce.errors import InvalidTopic, InvalidWay, InvalidWish
from heardonce.events import is_event
from heardonce.frames import is_frame
from heardonce.names import is_topic, is_wish, lesser_way, meets
from tests.arguments import ArgumentChecks
from tests.values import ODD_VALUES

NAME = "[a-z]{1,6}"
TOPIC = re.compile(rf"{NAME}(/{NAME}){{0,4}}")
WISH = re.compile(rf"(#|({NAME}|\+)(/({NAME}|\+)){{0,3}}(/#|/{NAME}|/\+)?)")


def meets_by_steps(steps, wanted):
    """Whether steps meet what is wanted, told one step after another."""
    if wanted == ["#"]:
        return True
    if not steps or not wanted:
        return not steps and not wanted
    return wanted[0] in ("+", steps[0]) and meets_by_steps(steps[1:], wanted[1:])


class Names(unittest.TestCase):
    def test_lengths_of_names(self):
        self.assertEqual([is_topic("a" * many) for many in (0, 1, 6, 7)], [False, True, True, False])
        self.assertEqual([is_wish("z" * many) for many in (0, 1, 6, 7)], [False, True, True, False])
        self.assertEqual([is_topic("a/" + "b" * many) for many in (0, 1, 6, 7)], [False, True, True, False])
        self.assertEqual([is_frame(("hello", "q" * many, True)) for many in (0, 1, 6, 7)], [False, True, True, False])

    def test_numbers_of_steps(self):
        for many in range(8):
            self.assertEqual(is_topic("/".join(["ab"] * many)), 1 <= many <= 5)
            self.assertEqual(is_wish("/".join(["ab"] * many)), 1 <= many <= 5)
            self.assertEqual(is_wish("/".join(["+"] * many)), 1 <= many <= 5)
            self.assertEqual(is_wish("/".join(["+"] * many + ["#"])), many <= 4)

    def test_letters(self):
        for sign in "AZ019_-+#. \n\t\\'`{}@":
            self.assertFalse(is_topic(sign))
            self.assertFalse(is_topic("a" + sign))
            self.assertFalse(is_topic(sign + "a"))
            self.assertFalse(is_wish("a" + sign))
        for sign in "abcdefghijklmnopqrstuvwxyz":
            self.assertTrue(is_topic(sign))

    def test_signs_at_each_place(self):
        for many in range(1, 6):
            for at in range(many):
                for sign in ("+", "#", "a+", "+a", "a#", "##", "++", ""):
                    steps = ["a"] * many
                    steps[at] = sign
                    value = "/".join(steps)
                    self.assertFalse(is_topic(value), value)
                    self.assertEqual(is_wish(value), sign == "+" or (sign == "#" and at == many - 1), value)

    def test_all_short_strings(self):
        for many in range(6):
            for signs in product("ab/+#A", repeat=many):
                value = "".join(signs)
                self.assertEqual(is_topic(value), bool(TOPIC.fullmatch(value)), value)
                self.assertEqual(is_wish(value), bool(WISH.fullmatch(value)), value)

    def test_other_values(self):
        for value in ODD_VALUES + ((), ("a",), ["a"], b"a", 1):
            self.assertIs(is_topic(value), False)
            self.assertIs(is_wish(value), False)

    def test_bodies(self):
        for body, is_one in ((-1, False), (0, True), (999, True), (1000, False), (True, False), (False, False)):
            self.assertEqual(is_event(("give", "a", "light", "a", body)), is_one)
            self.assertEqual(is_frame(("word", "light", None, False, "a", body)), is_one)
        for body in (None, "7", (7,), 10 ** 119):
            self.assertFalse(is_event(("give", "a", "light", "a", body)))

    def test_ways(self):
        ways = ("light", "marked", "paired")
        for one, other in product(range(3), repeat=2):
            self.assertEqual(lesser_way(ways[one], ways[other]), ways[min(one, other)])
        for way in ("Light", "", "lights", "pair", None, 0):
            with self.assertRaises(InvalidWay):
                lesser_way("light", way)


class Meeting(unittest.TestCase):
    def test_any_number_of_steps(self):
        self.assertTrue(meets("a", "#"))
        self.assertTrue(meets("a/b/c/d/e", "#"))
        self.assertTrue(meets("a/b/c/d", "a/b/c/d/#"))
        self.assertTrue(meets("a/b/c/d/e", "a/b/c/d/#"))
        self.assertFalse(meets("a/b/c", "a/b/c/d/#"))
        self.assertTrue(meets("a", "+/#"))
        self.assertFalse(meets("a", "+/+/#"))
        self.assertFalse(meets("ab", "a/#"))
        self.assertFalse(meets("a", "ab"))

    def test_beside_steps(self):
        topics = ["/".join(steps) for many in (1, 2, 3) for steps in product(("a", "ab", "b"), repeat=many)]
        topics += ["a/b/a/b", "a/b/a/b/a", "b/b/b/b/b"]
        wishes = ["/".join(steps) for many in (1, 2, 3) for steps in product(("a", "ab", "+"), repeat=many)]
        wishes += ["#"] + [wish + "/#" for wish in wishes]
        for topic, wish in product(topics, wishes):
            self.assertIs(meets(topic, wish), meets_by_steps(topic.split("/"), wish.split("/")), (topic, wish))


class Arguments(ArgumentChecks, unittest.TestCase):
    def test_wrong_arguments(self):
        self.check_arguments(meets, ("a/b", "a/#"), (InvalidTopic, InvalidWish), (("a/+", "#"), ("#/a",)))
        self.check_arguments(lesser_way, ("light", "marked"), (InvalidWay, InvalidWay))


if __name__ == "__main__":
    unittest.main()
