"""[42], [43], [80]: pools, and the reader for a word."""

import random
import unittest
from itertools import product

from heardonce.errors import InvalidPool, InvalidTopic
from heardonce.pools import fresh_pool, is_pool, key_of, moved_keys, reader_for
from tests.arguments import ArgumentChecks
from tests.readers import NAMES, RULES, TOPICS, Pool, Reader, key_told, reader_of_key, some_pool_run, some_readers
from tests.values import ODD_VALUES, bent, replaced

READERS = (("ann", 2, 2, 10), ("bob", 9, 1, 60), ("cid", 0, 9, 100))
POOL = (
    "fair", (
        ("ann", 2, 2, 10, 5, ((3, "a"), (1, "a/b"))), ("bob", 9, 1, 60, 1000, ((0, "c"),)), ("cid", 0, 9, 100, 0, ()),
    ), (((4, "a"), (9, "b")), ((2, "a"),)), 10, "bob",
)


def words(first, many):
    return tuple((first + at, "t") for at in range(many))


def pool_of(rule, last, *rows):
    """A pool of readers told by (credit, weight, told, how many are held), their places ascending by 20."""
    readers, number = [], 0
    for at, (credit, weight, told, held) in enumerate(rows):
        readers.append((NAMES[at], credit, weight, 20 * at, told, words(number, held)))
        number += held
    return (rule, tuple(readers), (), number, last)


class Pools(unittest.TestCase):
    def test_pools(self):
        for rule in RULES:
            self.assertIs(is_pool((rule,) + POOL[1:]), True)
            self.assertIs(is_pool(fresh_pool(rule, READERS)), True)

    def test_other_kinds(self):
        for value in bent(POOL) + list(ODD_VALUES) + [POOL[:4], POOL + (0,), list(POOL), ()]:
            self.assertIs(is_pool(value), False, value)

    def check_bounds(self, rows):
        for path, value, is_one in rows:
            self.assertIs(is_pool(replaced(POOL, path, value)), is_one, (path, value))

    def test_bounds(self):
        self.check_bounds((
            ((0,), "turn", False), ((0,), "", False), ((3,), 9, False), ((3,), 1000, True), ((3,), 1001, False),
            ((4,), "", True), ((4,), "zoe", True), ((4,), "a/b", False), ((1,), (), False),
            ((1,), POOL[1][::-1], False), ((1,), POOL[1][:2] * 2, False),
            ((2,), (), True), ((2, 0), (), False), ((2, 1), words(10, 6), False), ((2, 1), ((4, "a"),), False),
            ((2, 1), ((5, "a"), (5, "b")), False), ((2, 1), ((5, "a"),), True), ((2, 1), ((3, "a"),), False),
            ((2, 1, 0, 0), 8, True), ((2, 1, 0, 0), 10, False), ((2, 1, 0, 1), "#", False), ((2, 1, 0), (2,), False),
        ))

    def test_bounds_of_readers(self):
        ann = (1, 0)
        self.check_bounds((
            (ann + (0,), "bob", False), (ann + (0,), "", False), (ann + (0,), "b", True), (ann + (0,), "c", False),
            (ann + (1,), 0, True), (ann + (1,), 9, True), (ann + (1,), 10, False), (ann + (2,), 0, False),
            (ann + (2,), 1, True), (ann + (2,), 9, True), (ann + (2,), 10, False), (ann + (3,), 0, True),
            (ann + (3,), 99, True), (ann + (3,), 100, False), (ann + (3,), 101, False), (ann + (3,), 60, False),
            (ann + (4,), 1000, True), (ann + (4,), 1001, False), (ann + (5,), (), True),
            (ann + (5,), ((3, "a"), (3, "b")), False), (ann + (5,), ((0, "a"),), False),
            (ann + (5,), ((10, "a"),), False), (ann + (5,), ((8, "a", 1),), False), (ann, POOL[1][0][:5], False),
            (ann, POOL[1][0] + (0,), False), (ann, POOL[1][0][:4], False),
        ))

    def test_many(self):
        readers = tuple((name, 1, 1, place, 0, ()) for place, name in enumerate(NAMES))
        self.assertIs(is_pool(("key", readers[:6], (), 0, "")), True)
        self.assertIs(is_pool(("key", readers, (), 0, "")), False)
        for many in (100, 101):
            pool = ("key", (("ann", 1, 1, 1, 0, words(0, many)),), (), 1000, "")
            self.assertIs(is_pool(pool), many == 100)
        for many in (12, 13):
            lots = tuple(words(6 * at, 1) for at in range(many))
            self.assertIs(is_pool(("key", readers[:1], lots, 1000, "")), many == 12)
        for many in (1, 6, 7):
            self.assertIs(is_pool(("key", readers[:1], (words(0, many),), 1000, "")), many < 7)


class Fresh(unittest.TestCase):
    def test_fresh(self):
        self.assertEqual(
            fresh_pool("least", READERS[:2]),
            ("least", (("ann", 2, 2, 10, 0, ()), ("bob", 9, 1, 60, 0, ())), (), 0, ""),
        )

    def test_wrong_readers(self):
        for value in bent(READERS) + list(ODD_VALUES) + [
            (), READERS[::-1], READERS[:1] * 2, (READERS[0], ("bob", 1, 1, 10)), POOL[1], list(READERS),
            tuple((name, 1, 1, place) for place, name in enumerate(NAMES)), READERS[0],
        ]:
            for arguments in ((fresh_pool, "key", value), (moved_keys, value, READERS), (moved_keys, READERS, value)):
                with self.assertRaises(InvalidPool, msg=value):
                    arguments[0](*arguments[1:])
        for path, value in (((0, 1), 10), ((0, 2), 0), ((0, 2), 10), ((0, 3), 101), ((0, 3), 60), ((0, 0), "bob")):
            self.assertRaises(InvalidPool, fresh_pool, "key", replaced(READERS, path, value))


class Keys(unittest.TestCase):
    def test_keys(self):
        self.assertEqual(key_of("a"), (31 * 7 + 97) % 101)
        for topic in TOPICS + ("abcdef/abcdef/abcdef/abcdef/abcdef", "z", "a/a/a/a/a"):
            self.assertEqual(key_of(topic), key_told(topic))
        for steps in product("ab", repeat=4):
            self.assertEqual(key_of("/".join(steps)), key_told("/".join(steps)))

    def test_moved_keys(self):
        dice = random.Random(42)
        for _ in range(60):
            one, other = some_readers(dice), some_readers(dice)
            rows = [[Reader(*reader) for reader in readers] for readers in (one, other)]
            moved = [key for key in range(101) if len({reader_of_key(row, key).name for row in rows}) == 2]
            self.assertEqual(moved_keys(one, other), moved)
            self.assertEqual(moved_keys(one, one), [])

    def test_moved_keys_at_the_places(self):
        one, other = (("ann", 0, 1, 10), ("bob", 0, 1, 60)), (("ann", 0, 1, 9), ("bob", 0, 1, 100))
        self.assertEqual(moved_keys(one, other), [10] + list(range(61, 101)))
        self.assertEqual(moved_keys(one[:1], (("bob", 1, 1, 10),)), list(range(101)))
        self.assertEqual(moved_keys(one[:1], (("ann", 1, 1, 90),)), [])


class ReaderFor(unittest.TestCase):
    def test_turns(self):
        rows = [(1, 1, 0, 0)] * 3
        for last, name in (
            ("", "ann"), ("ann", "bob"), ("bob", "cid"), ("cid", "ann"), ("a", "ann"), ("b", "bob"), ("bz", "cid"),
            ("zoe", "ann"),
        ):
            self.assertEqual(reader_for(pool_of("turns", last, *rows), "a"), name)
        rows[1] = (1, 1, 0, 1)
        self.assertEqual(reader_for(pool_of("turns", "ann", *rows), "a"), "cid")
        rows[2] = (0, 1, 0, 0)
        self.assertEqual(reader_for(pool_of("turns", "ann", *rows), "a"), "ann")

    def test_least(self):
        for held, name in (((2, 1, 0), "cid"), ((1, 1, 1), "ann"), ((3, 2, 2), "bob"), ((0, 0, 5), "ann")):
            self.assertEqual(reader_for(pool_of("least", "ann", *[(9, 1, 7, many) for many in held]), "a"), name)
        self.assertEqual(reader_for(pool_of("least", "", (1, 1, 0, 1), (9, 1, 0, 3), (9, 1, 0, 2)), "a"), "cid")

    def test_fair(self):
        for rows, name in (
            (((9, 1, 0, 0), (9, 1, 0, 0)), "ann"), (((9, 1, 1, 0), (9, 2, 2, 0)), "bob"),
            (((9, 1, 1, 0), (9, 2, 3, 0)), "ann"), (((9, 3, 0, 0), (9, 9, 1, 0)), "bob"),
            (((9, 1, 1000, 0), (9, 1, 999, 0)), "bob"), (((0, 9, 0, 0), (9, 1, 50, 0)), "bob"),
            (((9, 3, 2, 0), (9, 2, 1, 0), (9, 9, 8, 0)), "ann"), (((9, 3, 3, 0), (9, 7, 8, 0), (9, 9, 10, 0)), "cid"),
        ):
            self.assertEqual(reader_for(pool_of("fair", "", *rows), "a"), name)

    def test_key(self):
        readers = (("ann", 1, 1, 10, 0, ()), ("bob", 1, 1, 60, 0, ()), ("cid", 0, 1, 90, 0, ()))
        told = set()
        for topic in TOPICS + tuple("/".join(steps) for steps in product("abcdefgh", repeat=2)):
            key = key_told(topic)
            name = "ann" if key <= 10 or key > 90 else "bob" if key <= 60 else None
            self.assertEqual(reader_for(("key", readers, (), 0, "ann"), topic), name, (topic, key))
            told.add(name)
        self.assertEqual(told, {"ann", "bob", None})

    def test_no_room(self):
        for rule in RULES:
            self.assertIsNone(reader_for(pool_of(rule, "", (0, 1, 0, 0), (2, 1, 0, 2), (1, 1, 0, 3)), "a"))

    def test_beside_another_telling(self):
        dice = random.Random(43)
        names = set()
        for _ in range(200):
            _, model = some_pool_run(dice, 15)
            for topic in TOPICS:
                reader = model.reader_for(topic)
                name = None if reader is None else reader.name
                self.assertEqual(reader_for(model.pool(), topic), name)
                names.add((model.rule, name is None))
        self.assertEqual(len(names), 8)
        self.assertEqual(Pool(POOL).pool(), POOL)


class Arguments(ArgumentChecks, unittest.TestCase):
    def test_wrong_arguments(self):
        readers = (READERS[::-1], (), POOL[1])
        self.check_arguments(
            fresh_pool, ("key", READERS), (InvalidPool, InvalidPool), (("keys", "", ("key",)), readers),
        )
        self.check_arguments(key_of, ("a",), (InvalidTopic,), (("#", "a/+", ""),))
        self.check_arguments(reader_for, (POOL, "a"), (InvalidPool, InvalidTopic), ((POOL[:4], ()), ("#", "a/+", "")))
        self.check_arguments(moved_keys, (READERS, READERS), (InvalidPool, InvalidPool), (readers, readers))

    def test_new_lists(self):
        other = (("zoe", 1, 1, 1),)
        moved_keys(READERS, other).clear()
        self.assertEqual(len(moved_keys(READERS, other)), 101)


if __name__ == "__main__":
    unittest.main()
