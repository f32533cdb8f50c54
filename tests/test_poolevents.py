"""[44], [81]: pool events, and of [3] what is said of words that come to pools."""

import random
import unittest
from fractions import Fraction

from heardonce.errors import CannotHappen, InvalidEvent, InvalidEvents, InvalidPool
from heardonce.poolevents import is_pool_event, pool_after, pool_after_all, pool_can, pool_told
from heardonce.pools import fresh_pool, is_pool, moved_keys
from tests.arguments import ArgumentChecks
from tests.readers import (
    NAMES, RULES, TOPICS, Impossible, Pool, fresh, key_told, some_pool_event, some_pool_run, some_readers,
)
from tests.values import ODD_VALUES, bent, replaced

READERS = (("ann", 1, 2, 10), ("bob", 2, 1, 60))
EVENTS = (("come", ("a", "b/c")), ("done", "ann", 0), ("credit", "ann", 9), ("in", "cid", 1, 1, 0), ("out", "ann"))


def come(*topics):
    return ("come", topics)


def turns(*readers):
    return fresh_pool("turns", readers or READERS)


def numbers(lots):
    return [[number for number, _ in lot] for lot in lots]


def held_by(pool, name):
    return [number for reader in pool[1] if reader[0] == name for number, _ in reader[5]]


class Events(unittest.TestCase):
    def test_events(self):
        for event in EVENTS:
            self.assertIs(is_pool_event(event), True)
            for value in bent(event) + [event[:-1], event + (0,), list(event)]:
                self.assertIs(is_pool_event(value), False, value)
        for value in ODD_VALUES:
            self.assertIs(is_pool_event(value), False, value)

    def test_bounds(self):
        for event, path, value, is_one in (
            (0, (1,), (), False), (0, (1,), ("a",) * 6, True), (0, (1,), ("a",) * 7, False), (0, (1,), ("#",), False),
            (1, (1,), "", False), (1, (2,), 1000, True), (1, (2,), 1001, False), (1, (2,), -1, False),
            (2, (2,), 0, True), (2, (2,), 10, False), (3, (1,), "", False), (3, (2,), 0, True), (3, (2,), 10, False),
            (3, (3,), 0, False), (3, (3,), 9, True), (3, (3,), 10, False), (3, (4,), 100, True), (3, (4,), 101, False),
            (4, (1,), "abcdefg", False), (4, (0,), "go", False), (0, (0,), "out", False), (4, (0,), "come", False),
        ):
            self.assertIs(is_pool_event(replaced(EVENTS[event], path, value)), is_one, (event, path, value))


class Beside(unittest.TestCase):
    def test_rows_of_events(self):
        dice = random.Random(44)
        words = set()
        for rule in RULES * 25:
            start = fresh(rule, some_readers(dice))
            events, _ = some_pool_run(dice, 60, start)
            pool, model, told = start, Pool(start), []
            for event in events:
                model = model.behind(event)
                self.assertEqual(pool_told(pool, (event,)), model.told)
                pool = pool_after(pool, event)
                self.assertEqual(pool, model.pool())
                told += model.told
                words.add((rule, event[0]))
            self.assertIs(is_pool(pool), True)
            self.assertEqual(pool_after_all(start, events), pool)
            self.assertEqual(pool_told(start, events), told)
        self.assertEqual(len(words), 20)

    def test_events_that_cannot(self):
        dice = random.Random(81)
        seen = set()
        for rule in RULES * 25:
            _, model = some_pool_run(dice, 60, fresh(rule, some_readers(dice)))
            for _ in range(30):
                event = some_pool_event(dice, model)
                try:
                    self.assertEqual(pool_after(model.pool(), event), model.behind(event).pool())
                    self.assertIs(pool_can(model.pool(), event), True)
                except CannotHappen:
                    self.assertRaises(Impossible, model.behind, event)
                    self.assertIs(pool_can(model.pool(), event), False, (model.pool(), event))
                    seen.add((rule, event[0]))
        self.assertLessEqual({(rule, word) for rule in RULES for word in ("done", "in", "out", "come")}, seen)


class Lots(unittest.TestCase):
    def test_told_whole_or_not_at_all(self):
        pool = pool_after(turns(), come("a", "b", "c", "d"))
        self.assertEqual((pool[1], pool[4]), (turns()[1], ""))
        self.assertEqual(numbers(pool[2]), [[0, 1, 2, 3]])
        # All behind it wait, too, though there is room for them.
        pool = pool_after(pool, come("a"))
        self.assertEqual(numbers(pool[2]), [[0, 1, 2, 3], [4]])
        pool = pool_after(pool, ("credit", "ann", 2))
        self.assertEqual((held_by(pool, "ann"), held_by(pool, "bob"), numbers(pool[2])), ([0, 2], [1, 3], [[4]]))
        self.assertEqual(pool[4], "bob")

    def test_each_word_counts_for_the_next_one_of_its_lot(self):
        pool = pool_after(fresh_pool("least", READERS), come("a", "b", "c"))
        self.assertEqual((held_by(pool, "ann"), held_by(pool, "bob")), ([0], [1, 2]))
        pool = pool_after(fresh_pool("fair", (("ann", 9, 2, 1), ("bob", 9, 1, 2))), come(*"abcdef"))
        self.assertEqual((held_by(pool, "ann"), held_by(pool, "bob")), ([0, 1, 3, 4], [2, 5]))

    def test_key(self):
        pool = pool_after_all(fresh_pool("key", READERS), (come("a/b"), come("a/b"), come("a")))
        self.assertEqual((held_by(pool, "ann"), held_by(pool, "bob"), numbers(pool[2])), ([0], [], [[1], [2]]))
        pool = pool_after(pool, ("done", "ann", 0))
        self.assertEqual((held_by(pool, "ann"), held_by(pool, "bob"), numbers(pool[2])), ([1], [2], []))

    def test_twelve_lots(self):
        pool = turns(("ann", 0, 1, 1))
        pool = pool_after_all(pool, (come("a"),) * 12)
        self.assertEqual(len(pool[2]), 12)
        self.assertIs(pool_can(pool, come("a")), False)
        self.assertRaises(CannotHappen, pool_after, pool, come("a"))
        told = pool_after(pool, ("credit", "ann", 9))
        self.assertEqual((held_by(told, "ann"), numbers(told[2])), (list(range(9)), [[9], [10], [11]]))

    def test_count(self):
        for count, many, is_one in ((999, 1, True), (999, 2, False), (1000, 1, False), (994, 6, True)):
            pool = replaced(turns(), (3,), count)
            self.assertIs(pool_can(pool, come(*["a"] * many)), is_one, (count, many))

    def test_told(self):
        pool = ("turns", (("ann", 2, 1, 1, 999, ()),), (), 0, "")
        pool = pool_after(pool, come("a"))
        self.assertEqual(pool[1][0][4], 1000)
        self.assertIs(pool_can(pool, come("a")), False)
        self.assertIs(pool_can(replaced(pool, (1, 0, 1), 1), come("a")), True)


class Own(unittest.TestCase):
    def test_done(self):
        pool = pool_after_all(turns(), (come("a"), come("b")))
        for event in (("done", "ann", 1), ("done", "bob", 0), ("done", "cid", 0), ("done", "ann", 2)):
            self.assertRaises(CannotHappen, pool_after, pool, event)
        pool = pool_after(pool, ("done", "ann", 0))
        self.assertEqual(pool[1][0], ("ann", 1, 2, 10, 1, ()))
        self.assertIs(pool_can(pool, ("done", "ann", 0)), False)

    def test_credit(self):
        pool = pool_after_all(turns(), (come("a"), come("b"), come("c")))
        self.assertEqual(held_by(pool, "bob"), [1, 2])
        for credit in (0, 1, 2):
            less = pool_after(pool, ("credit", "bob", credit))
            self.assertEqual((held_by(less, "bob"), less[1][1][1]), ([1, 2], credit))
        waiting = pool_after(pool_after(pool, ("credit", "bob", 0)), come("d"))
        self.assertEqual(numbers(waiting[2]), [[3]])
        for number in (1, 2):
            waiting = pool_after(waiting, ("done", "bob", number))
            self.assertEqual(numbers(waiting[2]), [[3]])
        self.assertEqual(held_by(pool_after(waiting, ("credit", "bob", 1)), "bob"), [3])
        self.assertRaises(CannotHappen, pool_after, pool, ("credit", "cid", 1))

    def test_in(self):
        pool = pool_after_all(turns(), (come("a", "b", "c"), come("d")))
        self.assertEqual(numbers(pool[2]), [[3]])
        after = pool_after(pool, ("in", "abe", 1, 5, 0))
        self.assertEqual(after[1][0], ("abe", 1, 5, 0, 1, ((3, "d"),)))
        self.assertEqual((after[2], after[4]), ((), "abe"))
        for event in (("in", "ann", 1, 1, 0), ("in", "cid", 1, 1, 10), ("in", "cid", 1, 1, 60)):
            self.assertIs(pool_can(pool, event), False)
            self.assertRaises(CannotHappen, pool_after, pool, event)

    def test_six_readers(self):
        pool = turns(*[(name, 1, 1, place) for place, name in enumerate(NAMES[:5])])
        pool = pool_after(pool, ("in", NAMES[5], 1, 1, 77))
        self.assertEqual(len(pool[1]), 6)
        self.assertIs(pool_can(pool, ("in", NAMES[6], 1, 1, 78)), False)


class Out(unittest.TestCase):
    def test_no_word(self):
        self.assertEqual(pool_after(turns(), ("out", "ann")), turns(READERS[1]))

    def test_one_and_several_words(self):
        pool = pool_after_all(turns(), (come("a", "b", "c"), come("d", "e")))
        self.assertEqual(numbers(pool_after(pool, ("out", "ann"))[2]), [[0], [3, 4]])
        out = pool_after(pool, ("out", "bob"))
        self.assertEqual(numbers(out[2]), [[1], [2], [3, 4]])
        self.assertEqual((held_by(out, "ann"), out[4], out[3]), ([0], "bob", 5))

    def test_in_the_order_of_their_numbers(self):
        readers = (("ann", 0, 1, 1, 2, ((5, "a"), (2, "b"), (4, "c"))), ("bob", 0, 1, 2, 0, ()))
        pool = ("turns", readers, (((0, "z"), (1, "y")),), 9, "")
        self.assertEqual(numbers(pool_after(pool, ("out", "ann"))[2]), [[2], [4], [5], [0, 1]])

    def test_told_anew(self):
        pool = pool_after_all(turns(("ann", 9, 1, 1), ("bob", 9, 1, 2)), (come("a"), come("b"), come("c")))
        self.assertEqual(pool_told(pool, (("out", "ann"),)), [(0, "bob"), (2, "bob")])
        self.assertEqual(pool_after(pool, ("out", "ann"))[1], (
            ("bob", 9, 1, 2, 3, ((1, "b"), (0, "a"), (2, "c"))),
        ))

    def test_only_reader(self):
        self.assertIs(pool_can(turns(READERS[0]), ("out", "ann")), False)
        self.assertRaises(CannotHappen, pool_after, turns(READERS[0]), ("out", "ann"))

    def test_no_such_reader(self):
        self.assertRaises(CannotHappen, pool_after, turns(), ("out", "cid"))

    def test_last_one_with_room(self):
        pool = pool_after_all(turns(("ann", 3, 1, 1), ("bob", 0, 1, 2)), (come("a"), come("b")))
        self.assertEqual(numbers(pool_after(pool, ("out", "ann"))[2]), [[0], [1]])

    def test_too_many_lots(self):
        pool = pool_after_all(turns(("ann", 3, 1, 1), ("bob", 0, 1, 2)), (come("a"),) * 3 + (come("b"),) * 9)
        self.assertEqual(len(pool[2]), 9)
        self.assertEqual(len(pool_after(pool, ("out", "ann"))[2]), 12)
        pool = pool_after(pool, come("c"))
        self.assertIs(pool_can(pool, ("out", "ann")), False)
        self.assertIs(pool_can(pool_after(pool, ("credit", "bob", 1)), ("out", "ann")), True)


class Rows(unittest.TestCase):
    def test_many(self):
        events = (("credit", "ann", 1),) * 100
        self.assertEqual(pool_after_all(turns(), events), turns())
        self.assertEqual(pool_after_all(turns(), ()), turns())
        self.assertEqual(pool_told(turns(), ()), [])
        for function in (pool_after_all, pool_told):
            self.assertRaises(InvalidEvents, function, turns(), events + events[:1])
            self.assertRaises(CannotHappen, function, turns(), events[:99] + (("out", "cid"),))
            self.assertRaises(InvalidEvents, function, turns(), (("out", "cid"), ("out",)))


class Promises(unittest.TestCase):
    """[3]: what is said of pools."""

    def test_each_word_waits_is_held_or_done(self):
        dice = random.Random(45)
        for rule in RULES * 20:
            start = fresh(rule, some_readers(dice))
            events, model = some_pool_run(dice, 60, start)
            pool = pool_after_all(start, events)
            found = [word[0] for reader in pool[1] for word in reader[5]] + [word[0] for lot in pool[2] for word in lot]
            done = [event[2] for event in events if event[0] == "done"]
            self.assertEqual(sorted(found + done), list(range(pool[3])))
            self.assertEqual(model.count, pool[3])

    def test_told_in_their_order(self):
        dice = random.Random(46)
        for rule in RULES * 20:
            start = fresh(rule, some_readers(dice))
            events, _ = some_pool_run(dice, 60, start)
            before = tuple(event for event in events if event[0] != "out")
            told, pool = [], start
            for event in before:
                if pool_can(pool, event):
                    told += pool_told(pool, (event,))
                    pool = pool_after(pool, event)
            self.assertEqual([number for number, _ in told], list(range(len(told))))

    def test_keys_that_move(self):
        dice = random.Random(47)
        for _ in range(60):
            readers = some_readers(dice, 5)
            pool = fresh("key", readers)
            events = (("in", dice.choice(NAMES), 1, 1, dice.randrange(101)), ("out", dice.choice(NAMES)))
            for event in events:
                if pool_can(pool, event):
                    after = tuple(reader[:4] for reader in pool_after(pool, event)[1])
                    owners = [{key: self.owner(row, key) for key in range(101)} for row in (readers, after)]
                    moved = moved_keys(readers, after)
                    self.assertEqual(moved, [key for key in range(101) if owners[event[0] == "in"][key] == event[1]])

    def owner(self, readers, key):
        return min(readers, key=lambda reader: (reader[3] < key, reader[3]))[0]

    def test_fair_and_turns(self):
        dice = random.Random(48)
        for rule in ("fair", "turns") * 30:
            readers = tuple((name, 9, weight, place) for name, _, weight, place in some_readers(dice))
            pool, many = fresh(rule, readers), {reader[0]: 0 for reader in readers}
            for at in range(1, 60):
                number, name = pool_told(pool, (come(dice.choice(TOPICS)),))[0]
                pool = pool_after_all(pool, (come("a"), ("done", name, number)))
                many[name] += 1
                if rule == "turns":
                    self.assertLessEqual(max(many.values()) - min(many.values()), 1)
                for reader in readers if rule == "fair" else ():
                    part = Fraction(at * reader[2], sum(other[2] for other in readers))
                    self.assertGreaterEqual(many[reader[0]], int(part))


class Arguments(ArgumentChecks, unittest.TestCase):
    def test_wrong_arguments(self):
        pool = turns()
        pools, events = (pool[:4], ()), (("come", ()), ("out",), ("in", "ann", 1, 1), ("done", "ann", 1001))
        for function in (pool_can, pool_after):
            self.check_arguments(function, (pool, come("a")), (InvalidPool, InvalidEvent), (pools, events))
        rows = tuple((come("a"), event) for event in events) + (come("a"), [come("a")])
        for function in (pool_after_all, pool_told):
            self.check_arguments(function, (pool, ()), (InvalidPool, InvalidEvents), (pools, rows))
        self.assertEqual(key_told("a"), 11)

    def test_new_lists(self):
        told = pool_told(turns(), (come("a"),))
        told.clear()
        self.assertEqual(pool_told(turns(), (come("a"),)), [(0, "ann")])


if __name__ == "__main__":
    unittest.main()
