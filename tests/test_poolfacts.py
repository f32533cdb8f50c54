"""[43], [44], [82]: what there is to tell of pools, and of [3] what a pool makes of words in worlds."""

import random
import unittest
from fractions import Fraction
from math import gcd

from heardonce.errors import (
    CannotHappen, InvalidEvents, InvalidNames, InvalidNumber, InvalidPool, InvalidWay,
)
from heardonce.events import happened_all
from heardonce.poolevents import pool_after, pool_after_all, pool_told
from heardonce.poolfacts import fair_lag, share_events, slow_in, where_is
from heardonce.pools import fresh_pool
from heardonce.worlds import faults_of, fresh_world, is_at_rest
from tests.arguments import ArgumentChecks
from tests.readers import RULES, TOPICS, fresh, some_pool_run, some_readers
from tests.values import replaced

READERS = (("ann", 2, 2, 10), ("bob", 9, 1, 60))
WAYS = ("light", "marked", "paired")
SIDES = {"light": 1, "marked": 2, "paired": 4}


def come(*topics):
    return ("come", topics)


def open_readers(names):
    """Readers with much room, for each rule: who gets which key is told by their places."""
    return tuple((name, 9, 1 + at, 20 * at) for at, name in enumerate(names))


class Where(unittest.TestCase):
    def test_each_number(self):
        pool = pool_after_all(fresh_pool("turns", (("ann", 1, 1, 1), ("bob", 1, 1, 2))), (
            come("a"), come("b"), ("done", "ann", 0), come("c", "d"),
        ))
        told = [where_is(pool, number) for number in range(4)]
        self.assertEqual(told, [("done",), ("held", "bob"), ("waits",), ("waits",)])
        for number in (4, 1000, -1, 1001, True, None):
            self.assertRaises(InvalidNumber, where_is, pool, number)
        self.assertRaises(InvalidNumber, where_is, fresh_pool("turns", READERS), 0)

    def test_beside_another_telling(self):
        dice = random.Random(82)
        for _ in range(80):
            _, model = some_pool_run(dice, 40)
            held = {word[0]: name for name, reader in model.readers.items() for word in reader.held}
            waiting = {word[0] for lot in model.waiting for word in lot}
            for number in range(model.count):
                want = ("held", held[number]) if number in held else ("waits",) if number in waiting else ("done",)
                self.assertEqual(where_is(model.pool(), number), want)


class Lag(unittest.TestCase):
    def lag_told(self, pool):
        told, weights = sum(reader[4] for reader in pool[1]), sum(reader[2] for reader in pool[1])
        lag = max(Fraction(told * reader[2], weights) - reader[4] for reader in pool[1])
        return lag.numerator, lag.denominator

    def test_nothing_told(self):
        for names in ("a", "ab", "abcdef"):
            self.assertEqual(fair_lag(fresh_pool("fair", open_readers(names))), (0, 1))

    def test_told(self):
        for told, lag in (
            ((0, 0), (0, 1)), ((1, 0), (1, 3)), ((0, 1), (2, 3)), ((2, 1), (0, 1)), ((0, 1000), (2000, 3)),
            ((1000, 0), (1000, 3)), ((3, 0), (1, 1)),
        ):
            pool = ("fair", tuple(reader + (many, ()) for reader, many in zip(READERS, told)), (), 0, "")
            self.assertEqual(fair_lag(pool), lag)

    def test_beside_fractions(self):
        dice = random.Random(83)
        for _ in range(200):
            readers = tuple(reader + (dice.choice((0, 1, 7, 500, 1000)), ()) for reader in some_readers(dice))
            pool = (dice.choice(RULES), readers, (), 1000, "")
            top, below = fair_lag(pool)
            self.assertEqual((top, below), self.lag_told(pool))
            self.assertEqual(gcd(top, below), 1)


class Slow(unittest.TestCase):
    def slow_told(self, pool, events, number):
        last, at = {}, {}
        for index, event in enumerate(events):
            for word, name in pool_told(pool, (event,)):
                last[word], at[word] = name, index
            pool = pool_after(pool, event)
        held = {(reader[0], word[0]) for reader in pool[1] for word in reader[5]}
        old = {word for word in at if len(events) - 1 - at[word] >= number}
        return sorted({name for word, name in last.items() if (name, word) in held and word in old})

    def test_so_many_events_behind(self):
        pool = fresh_pool("turns", READERS)
        events = (come("a"), come("b"), ("done", "ann", 0), ("credit", "ann", 1))
        for number, names in ((0, ["bob"]), (1, ["bob"]), (2, ["bob"]), (3, []), (1000, [])):
            self.assertEqual(slow_in(pool, events, number), names)
        self.assertEqual(slow_in(pool, events[:2], 1), ["ann"])
        self.assertEqual(slow_in(pool, events[:2], 0), ["ann", "bob"])
        self.assertEqual(slow_in(pool, (), 0), [])

    def test_words_held_ahead_of_the_events(self):
        pool = pool_after(fresh_pool("turns", READERS), come("a"))
        self.assertEqual(slow_in(pool, (("credit", "bob", 1),) * 5, 0), [])

    def test_told_anew(self):
        pool = fresh_pool("turns", (("ann", 9, 1, 1), ("bob", 9, 1, 2)))
        events = (come("a"), ("credit", "bob", 9), ("out", "ann"), ("credit", "bob", 9))
        self.assertEqual(slow_in(pool, events, 1), ["bob"])
        self.assertEqual(slow_in(pool, events, 2), [])

    def test_beside_another_telling(self):
        dice = random.Random(84)
        for rule in RULES * 15:
            start = fresh(rule, some_readers(dice))
            events, _ = some_pool_run(dice, 40, start)
            for number in (0, 1, 2, 5, 10, 1000):
                self.assertEqual(slow_in(start, events, number), self.slow_told(start, events, number))

    def test_cannot(self):
        self.assertRaises(CannotHappen, slow_in, fresh_pool("turns", READERS), (("out", "cid"),), 0)


class Share(unittest.TestCase):
    def test_events_of_one_word(self):
        pool = fresh_pool("turns", READERS)
        for way in WAYS:
            many = SIDES[way]
            there = [("arrive", "cat", side) for side in ("coming", "going", "coming", "going")[:many]]
            back = [("arrive", "ann", side) for side in ("going", "coming", "going", "coming")[:many]]
            self.assertEqual(share_events(pool, "cat", way, ("b/c",)), (
                ("wish", "ann", "#", way), ("give", "cat", way, "b/c", 0), *there, ("unwish", "ann", "#"),
                ("pass", "ann"), *back,
            ))

    def told_one_by_one(self, pool, topics):
        """The readers to which a pool tells topics, each done at once, or None if one is told to nobody."""
        names = []
        for topic in topics:
            told = pool_told(pool, (come(topic),))
            if not told:
                return None
            names.append(told[0][1])
            pool = pool_after_all(pool, (come(topic), ("done", told[0][1], told[0][0])))
        return names

    def test_worlds_behind(self):
        dice = random.Random(85)
        for rule in RULES * 6:
            for way in WAYS:
                names = dice.choice((("ann",), ("ann", "bob"), ("ann", "bob", "cid")))
                sender = dice.choice(("ann", "eve", "abe"))
                pool = fresh_pool(rule, open_readers(names))
                topics = tuple(dice.choice(TOPICS) for _ in range(dice.randrange(13)))
                events = share_events(pool, sender, way, topics)
                readers = self.told_one_by_one(pool, topics)
                for manner in ((1, True, True), (2, False, False), (8, True, False)):
                    everybody = tuple(sorted({*names, sender}))
                    world = fresh_world(manner, everybody)
                    # No more events than may be told at once.
                    for at in range(0, len(events), 200):
                        world = happened_all(world, events[at:at + 200])
                    # Where logs are not written ahead, they are empty: nothing was written.
                    self.assertIs(is_at_rest(world), True)
                    self.assertEqual(faults_of(world), [])
                    for client in world[1]:
                        want = tuple((topic, body) for body, topic in enumerate(topics) if readers[body] == client[0])
                        self.assertEqual(client[3], want)

    def test_no_topic(self):
        self.assertEqual(share_events(fresh_pool("key", READERS), "ann", "light", ()), ())

    def test_many_topics(self):
        pool = fresh_pool("turns", READERS)
        self.assertEqual(len(share_events(pool, "eve", "paired", ("a",) * 12)), 12 * 12)
        self.assertRaises(InvalidEvents, share_events, pool, "eve", "paired", ("a",) * 13)

    def test_bodies_and_readers(self):
        events = share_events(fresh_pool("turns", READERS), "eve", "light", ("a", "b", "c"))
        self.assertEqual([event[4] for event in events if event[0] == "give"], [0, 1, 2])
        self.assertEqual([event[1] for event in events if event[0] == "wish"], ["ann", "bob", "ann"])

    def test_last_goes_on(self):
        pool = replaced(fresh_pool("turns", READERS), (4,), "ann")
        self.assertEqual(share_events(pool, "eve", "light", ("a",))[0][1], "bob")

    def test_names(self):
        for names, sender, is_right in (
            ("abcd", "a", True), ("abcd", "d", True), ("abcd", "e", False), ("abc", "e", True), ("abcde", "a", False),
        ):
            pool = fresh_pool("least", open_readers(names))
            if is_right:
                self.assertEqual(len(share_events(pool, sender, "light", ("t",))), 6)
            else:
                self.assertRaises(InvalidNames, share_events, pool, sender, "light", ("t",))

    def test_pools_that_hold_something_or_in_which_something_waits(self):
        pool = fresh_pool("turns", READERS)
        done = pool_after_all(pool, (come("a"), ("done", "ann", 0)))
        self.assertEqual(share_events(done, "eve", "light", ("a",))[0], ("wish", "bob", "#", "light"))
        held = pool_after(pool, come("a"))
        waits = pool_after(fresh_pool("turns", (("ann", 0, 1, 1),)), come("a"))
        for wrong in (held, waits):
            self.assertRaises(InvalidPool, share_events, wrong, "eve", "light", ("a",))
            self.assertRaises(InvalidPool, share_events, wrong, "eve", "light", ())

    def test_told_to_nobody(self):
        pool = fresh_pool("key", (("ann", 1, 1, 10), ("bob", 0, 1, 60)))
        self.assertEqual(share_events(pool, "eve", "light", ("a/b",))[0][1], "ann")
        self.assertRaises(CannotHappen, share_events, pool, "eve", "light", ("a/b", "a"))
        self.assertRaises(CannotHappen, share_events, replaced(pool, (3,), 1000), "eve", "light", ("a/b",))
        self.assertEqual(share_events(replaced(pool, (3,), 1000), "eve", "light", ()), ())

    def test_errors_in_their_order(self):
        five = pool_after(fresh_pool("least", open_readers("abcde")), come("a"))
        self.assertRaises(InvalidNames, share_events, five, "", "heavy", ("#",))
        self.assertRaises(InvalidWay, share_events, five, "f", "heavy", ("#",))
        self.assertRaises(InvalidEvents, share_events, five, "f", "light", ("#",))
        self.assertRaises(InvalidNames, share_events, five, "f", "light", ("a",))
        four = pool_after(fresh_pool("least", (("a", 1, 1, 1), ("b", 0, 1, 2))), come("a"))
        self.assertRaises(InvalidPool, share_events, four, "f", "light", ("a", "b"))


class Arguments(ArgumentChecks, unittest.TestCase):
    def test_wrong_arguments(self):
        pool = pool_after(fresh_pool("turns", READERS), come("a"))
        pools, events = (pool[:4], ()), ((come(),), come("a"), [come("a")], (("out",),))
        self.check_arguments(where_is, (pool, 0), (InvalidPool, InvalidNumber), (pools, (1, 1001)))
        self.check_arguments(fair_lag, (pool,), (InvalidPool,), (pools,))
        self.check_arguments(
            slow_in, (pool, (), 0), (InvalidPool, InvalidEvents, InvalidNumber), (pools, events, (1001, -1)),
        )
        self.check_arguments(
            share_events, (fresh_pool("turns", READERS), "eve", "light", ("a",)),
            (InvalidPool, InvalidNames, InvalidWay, InvalidEvents),
            (pools, ("", "Eve"), ("heavy", ""), (("#",), "a", ["a"], ("a",) * 13)),
        )

    def test_new_lists(self):
        pool = fresh_pool("turns", READERS)
        slow_in(pool, (come("a"),), 0).clear()
        self.assertEqual(slow_in(pool, (come("a"),), 0), ["ann"])


if __name__ == "__main__":
    unittest.main()
