"""[16], [57]: rights."""

import random
import unittest
from itertools import product

from heardonce.errors import InvalidDeed, InvalidRights, InvalidTopic, InvalidWish
from heardonce.names import meets
from heardonce.rights import (
    are_rights, barred_topic, idle_rules, is_let, let_topic, part_let, topic_at_odds,
)
from tests.arguments import ArgumentChecks
from tests.topics import TOPICS, bits, some_short_wish, some_wish
from tests.values import ODD_VALUES, bent

RIGHTS = (("bar", "hear", "a/+"), ("let", "both", "a/#"), ("let", "give", "+/b/#"))
DEEDS = ("give", "hear")


def let_bits(rights, deed):
    """The topics that are let, by the bits of an integer."""
    let, seen = 0, 0
    for word, told, wish in rights:
        if told in (deed, "both"):
            new = bits(wish) & ~seen
            seen |= new
            let |= new if word == "let" else 0
    return let


def some_rights(dice, most, make):
    return tuple(
        (dice.choice(("let", "bar")), dice.choice(("give", "hear", "both")), make(dice))
        for _ in range(dice.randrange(most + 1))
    )


class Rights(unittest.TestCase):
    def test_how_many(self):
        for many, is_one in ((0, True), (1, True), (12, True), (13, False)):
            self.assertIs(are_rights((("let", "both", "#"),) * many), is_one)

    def test_rules(self):
        for word, deed, wish in product(("let", "bar"), ("give", "hear", "both"), ("a", "#", "+/a/#")):
            self.assertIs(are_rights(((word, deed, wish),)), True)
        for rule in (("lets", "give", "a"), ("let", "take", "a"), ("let", "give", "#/a"), ("let", "give"), (), None):
            self.assertIs(are_rights((rule,)), False)

    def test_other_kinds(self):
        for other in bent(RIGHTS):
            self.assertIs(are_rights(other), False, other)
        for value in ODD_VALUES + ("let", list(RIGHTS), RIGHTS[0]):
            self.assertIs(are_rights(value), False, value)


class Let(unittest.TestCase):
    def test_first_rule_that_applies(self):
        rights = (("let", "give", "a"), ("bar", "both", "a"), ("let", "both", "+"), ("bar", "hear", "#"))
        for topic, deed, is_one in (
            ("a", "give", True), ("a", "hear", False), ("b", "give", True), ("b", "hear", True),
            ("b/c", "give", False), ("b/c", "hear", False),
        ):
            self.assertIs(is_let(rights, deed, topic), is_one)
            self.assertIs(is_let(rights[::-1], deed, topic), deed == "give" and "/" not in topic)
            self.assertIs(is_let((), deed, topic), False)

    def test_beside_topics(self):
        dice = random.Random(1)
        for _ in range(40):
            rights = some_rights(dice, 12, some_wish)
            for deed in DEEDS:
                let = let_bits(rights, deed)
                for at, topic in enumerate(TOPICS):
                    self.assertIs(is_let(rights, deed, topic), bool(let >> at & 1))


class Parts(unittest.TestCase):
    def check_parts(self, rights, deed, wish):
        met, let = bits(wish), let_bits(rights, deed)
        topic, barred = let_topic(rights, deed, wish), barred_topic(rights, deed, wish)
        if topic is None:
            self.assertEqual(met & let, 0, (rights, wish))
        else:
            self.assertTrue(meets(topic, wish))
            self.assertTrue(is_let(rights, deed, topic))
        if barred is None:
            self.assertEqual(met & ~let, 0, (rights, wish))
        else:
            self.assertTrue(meets(barred, wish))
            self.assertFalse(is_let(rights, deed, barred))
        part = "none" if met & let == 0 else ("all" if met & ~let == 0 else "some")
        self.assertEqual(part_let(rights, deed, wish), part)
        return part

    def test_beside_topics(self):
        dice, parts = random.Random(2), []
        for _ in range(3000):
            make = dice.choice((some_wish, some_short_wish))
            parts.append(self.check_parts(some_rights(dice, 12, make), dice.choice(DEEDS), make(dice)))
        self.assertTrue(all(parts.count(part) > 100 for part in ("all", "some", "none")))

    def test_rules_that_leave_little(self):
        tail = tuple(("let", "both", "/".join(["+"] * many)) for many in range(1, 6))
        for left in range(6):
            for deed in DEEDS:
                self.check_parts(tail[:left] + tail[left + 1:], deed, "#")
        self.assertEqual(part_let(tail, "hear", "#"), "all")
        self.assertEqual(part_let(tail[:4], "hear", "#"), "some")
        self.assertEqual(len(barred_topic(tail[:4], "hear", "#").split("/")), 5)
        self.assertEqual(part_let((("bar", "give", "#"), ("let", "both", "#")), "give", "a"), "none")
        self.assertEqual(part_let((("bar", "give", "#"), ("let", "both", "#")), "hear", "a"), "all")

    def test_twelve_rules(self):
        rights = tuple(("let", "both", name) for name in "abcdefghijkl")
        self.assertEqual(part_let(rights, "give", "+"), "some")
        self.assertNotIn(barred_topic(rights, "give", "+"), tuple("abcdefghijkl"))


class Idle(unittest.TestCase):
    def test_beside_topics(self):
        dice = random.Random(3)
        for _ in range(800):
            rights = some_rights(dice, 12, some_short_wish)
            idle = []
            for at in range(len(rights)):
                left = rights[:at] + rights[at + 1:]
                if all(let_bits(rights, deed) == let_bits(left, deed) for deed in DEEDS):
                    idle.append(at)
            self.assertEqual(idle_rules(rights), idle, rights)

    def test_each_by_itself(self):
        self.assertEqual(idle_rules((("let", "both", "#"), ("let", "both", "#"))), [0, 1])
        self.assertEqual(idle_rules((("let", "give", "#"), ("let", "both", "#"))), [0])
        self.assertEqual(idle_rules(()), [])

    def test_new_lists(self):
        rights = (("bar", "both", "a"),)
        idle_rules(rights).append(1)
        self.assertEqual(idle_rules(rights), [0])


class Odds(unittest.TestCase):
    def check_odds(self, rights, other, deed):
        topic = topic_at_odds(rights, other, deed)
        if topic is None:
            self.assertEqual(let_bits(rights, deed), let_bits(other, deed), (rights, other))
        else:
            self.assertNotEqual(is_let(rights, deed, topic), is_let(other, deed, topic), (rights, other))
        return topic

    def test_beside_topics(self):
        dice = random.Random(4)
        for _ in range(500):
            make = dice.choice((some_wish, some_short_wish))
            self.check_odds(some_rights(dice, 12, make), some_rights(dice, 12, make), dice.choice(DEEDS))

    def test_rights_that_are_like(self):
        dice, like = random.Random(5), 0
        for _ in range(500):
            rights = some_rights(dice, 8, some_short_wish)
            left = tuple(rule for rule in rights if dice.randrange(6))
            for deed in DEEDS:
                like += self.check_odds(rights, left, deed) is None
                self.check_odds(left, rights, deed)
                self.assertIsNone(topic_at_odds(rights, rights, deed))
        self.assertGreater(like, 100)

    def test_last_rule(self):
        self.assertIsNone(topic_at_odds((), (("bar", "both", "#"),), "give"))
        self.assertIsNone(topic_at_odds((("let", "give", "a"),), (), "hear"))
        self.assertEqual(topic_at_odds((("let", "give", "a"),), (), "give"), "a")
        self.assertEqual(topic_at_odds((), (("let", "both", "a"),), "give"), "a")

    def test_twelve_rules_each(self):
        one = tuple(("bar", "both", name) for name in "abcdefghijk") + (("let", "both", "#"),)
        other = tuple(("bar", "both", name) for name in "mnopqrstuvw") + (("let", "both", "#"),)
        for deed in DEEDS:
            self.assertIn(topic_at_odds(one, other, deed), tuple("abcdefghijkmnopqrstuvw"))


class Arguments(ArgumentChecks, unittest.TestCase):
    def test_wrong_arguments(self):
        wrong = (list(RIGHTS), RIGHTS[0], (("let", "both", "#"),) * 13, (("let", "both", ""),))
        deeds, wishes, topics = ("both", "", "take", ("give",)), ("", "#/a"), ("", "+", "#")
        self.check_arguments(
            is_let, (RIGHTS, "give", "a"), (InvalidRights, InvalidDeed, InvalidTopic), (wrong, deeds, topics),
        )
        for function in (part_let, let_topic, barred_topic):
            self.check_arguments(
                function, (RIGHTS, "hear", "a/#"), (InvalidRights, InvalidDeed, InvalidWish), (wrong, deeds, wishes),
            )
        self.check_arguments(idle_rules, (RIGHTS,), (InvalidRights,), (wrong,))
        self.check_arguments(
            topic_at_odds, (RIGHTS, (), "give"), (InvalidRights, InvalidRights, InvalidDeed), (wrong, wrong, deeds),
        )


if __name__ == "__main__":
    unittest.main()
