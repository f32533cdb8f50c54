"""[24], [67], and of [25] the octets of a change."""

import random
import unittest
from itertools import product

from heardonce.errors import CannotChange, InvalidChange, InvalidChanges, InvalidMemory, Unlike
from heardonce.logchanges import can_change, change_octets, changed, changes_between, is_change, is_memory
from tests.arguments import ArgumentChecks
from tests.memories import (
    EMPTY_CLIENT, EMPTY_SESSION, FULL_CLIENT, FULL_SESSION, LONGEST, MEMORY, Impossible, behind, octets_told,
    some_change, some_changes, some_memory, some_word,
)
from tests.values import ODD_VALUES, bent, replaced

ENTRY = (1, "paired", "let", "a/b", 300)
PUT, GONE, HOLD, FREE = ("put", ENTRY), ("gone", 1), ("hold", 1), ("free", 1)
WAIT, WENT = ("wait", "light", "b", 2), ("went",)
CHANGES = (PUT, GONE, HOLD, FREE, WAIT, WENT)
CLIENT = MEMORY[:2]


class Memories(unittest.TestCase):
    def test_memories(self):
        for memory in (EMPTY_CLIENT, EMPTY_SESSION, FULL_CLIENT, FULL_SESSION, CLIENT, MEMORY):
            self.assertIs(is_memory(memory), True)

    def test_what_is_none(self):
        for value in bent(MEMORY) + bent(CLIENT) + bent(EMPTY_CLIENT) + list(ODD_VALUES):
            self.assertIs(is_memory(value), False, value)
        for value in ((), ((),), ((), (), (), ()), MEMORY + ((),), CLIENT[::-1], list(MEMORY)):
            self.assertIs(is_memory(value), False, value)

    def test_bounds(self):
        entry = MEMORY[0][0]
        for path, value, is_one in (
            ((0, 0, 0), 0, True), ((0, 0, 0), 3, True), ((0, 0, 0), 4, False), ((0, 1, 0), 7, True),
            ((0, 1, 0), 8, False), ((0, 1, 0), 1, False), ((0, 0, 1), "light", False), ((0, 0, 2), "let", False),
            ((0, 0, 1), "paired", True), ((0, 0, 4), 999, True), ((0, 0, 4), 1000, False), ((0, 0, 3), "a/+", False),
            ((0, 0, 3), LONGEST, True), ((0, 0, 3), LONGEST + "a", False), ((0,), (entry, entry), False),
            ((1,), (0, 7), True), ((1,), (0, 8), False), ((1,), (4, 4), False), ((1,), (4, 0), False),
            ((1,), (-1,), False), ((2,), MEMORY[2] * 12, True), ((2,), MEMORY[2] * 13, False),
            ((2, 0), ("all", "b", 1), False), ((2, 0), ("light", "b"), False),
        ):
            self.assertIs(is_memory(replaced(MEMORY, path, value)), is_one, (path, value))


class Changes(unittest.TestCase):
    def test_changes(self):
        for change in CHANGES + (("put", MEMORY[0][0]), ("gone", 0), ("free", 7), ("wait", "paired", LONGEST, 999)):
            self.assertIs(is_change(change), True)

    def test_what_is_none(self):
        for change in CHANGES:
            for value in bent(change):
                self.assertIs(is_change(value), False, value)
            self.assertIs(is_change(change + (0,)), False)
            self.assertIs(is_change(change[:-1]), False)
        for value in ODD_VALUES:
            self.assertIs(is_change(value), False, value)
        for value in (
            ("put",) + ENTRY, ("put", ENTRY, ENTRY), ("put", ENTRY[:4]), ("put", (8,) + ENTRY[1:]), ("gone", 8),
            ("put", (1, "marked", "let", "a", 0)), ("put", (1, "light", "sent", "a", 0)), ("hold", -1), ("hold", True),
            ("free", 8), ("wait", "light", "a", 1000), ("wait", ("light", "a", 1)), ("wait", "light", "#", 1),
            ("went", 0), ("lose", 1), (), ("Put", ENTRY),
        ):
            self.assertIs(is_change(value), False, value)


class Changed(unittest.TestCase):
    def check(self, memory, change, told):
        self.assertIs(can_change(memory, change), told is not None)
        if told is None:
            with self.assertRaises(CannotChange):
                changed(memory, (change,))
        else:
            self.assertEqual(changed(memory, (change,)), told)

    def test_put(self):
        new = (3, "marked", "sent", "c", 0)
        for memory in (CLIENT, MEMORY):
            first, second = memory[0]
            self.check(memory, ("put", new), ((first, new, second),) + memory[1:])
            self.check(memory, ("put", ENTRY), ((ENTRY, second),) + memory[1:])
            self.check(memory, ("put", first), memory)
            self.check(memory, ("put", (7,) + new[1:]), ((first, second, (7,) + new[1:]),) + memory[1:])

    def test_gone(self):
        for memory in (CLIENT, MEMORY):
            self.check(memory, ("gone", 1), (memory[0][1:],) + memory[1:])
            self.check(memory, ("gone", 4), (memory[0][:1],) + memory[1:])
            for number in (0, 2, 3, 5, 6, 7):
                self.check(memory, ("gone", number), None)

    def test_hold_and_free(self):
        for memory in (CLIENT, MEMORY):
            for number in range(8):
                is_held = number in (0, 4)
                held = tuple(sorted({0, 4, number}))
                self.check(memory, ("hold", number), None if is_held else (memory[0], held) + memory[2:])
                free = tuple({0, 4} - {number})
                self.check(memory, ("free", number), (memory[0], free) + memory[2:] if is_held else None)

    def test_wait(self):
        for many in range(13):
            memory = CLIENT + ((("paired", "a", 5),) * many,)
            self.check(memory, WAIT, None if many == 12 else CLIENT + (memory[2] + (WAIT[1:],),))
        self.check(CLIENT, WAIT, None)

    def test_went(self):
        words = (("paired", "a", 5), ("light", "b", 6))
        self.check(CLIENT + (words,), WENT, CLIENT + (words[1:],))
        self.check(CLIENT + (words[1:],), WENT, CLIENT + ((),))
        self.check(CLIENT + ((),), WENT, None)
        self.check(CLIENT, WENT, None)

    def test_beside_another_telling(self):
        dice = random.Random(24)
        for seed in range(400):
            memory = some_memory(dice, seed % 2)
            change = some_change(dice)
            try:
                self.check(memory, change, behind(memory, (change,)))
            except Impossible:
                self.check(memory, change, None)
            changes = some_changes(dice, memory, 40)
            self.assertEqual(changed(memory, changes), behind(memory, changes))
            with self.assertRaises(CannotChange):
                changed(memory, changes[:39] + (("wait", "light", "a", 1) if seed % 2 else ("hold", 0),) * 2)

    def test_many_changes(self):
        self.assertEqual(changed(MEMORY, ()), MEMORY)
        self.assertEqual(changed(EMPTY_CLIENT, (HOLD, FREE) * 20), EMPTY_CLIENT)
        with self.assertRaises(InvalidChanges):
            changed(EMPTY_CLIENT, (HOLD, FREE) * 20 + (HOLD,))
        with self.assertRaises(CannotChange):
            changed(EMPTY_CLIENT, (HOLD, FREE) * 19 + (HOLD, HOLD))


class Between(unittest.TestCase):
    def fewest(self, memory, other):
        """How many changes are needed: one for each number that differs, and those of the words that wait."""
        many = len({entry[0] for entry in set(memory[0]) ^ set(other[0])}) + len(set(memory[1]) ^ set(other[1]))
        return many + (self.fewest_of_words(memory[2], other[2]) if len(memory) == 3 else 0)

    def fewest_of_words(self, words, wanted):
        """By all rows of changes, shorter ones first."""
        layer, many = {words}, 0
        while wanted not in layer:
            more = {row + (word,) for row in layer if len(row) < 12 for word in set(wanted)}
            layer, many = more | {row[1:] for row in layer if row}, many + 1
        return many

    def check(self, memory, other):
        changes = changes_between(memory, other)
        self.assertIsInstance(changes, tuple)
        self.assertTrue(all(is_change(change) for change in changes))
        self.assertEqual(behind(memory, changes), other)
        self.assertEqual(len(changes), self.fewest(memory, other))

    def test_books(self):
        dice = random.Random(67)
        for seed in range(300):
            memory = some_memory(dice, True)
            self.check(memory, some_memory(dice, True))
            self.check(memory, behind(memory, some_changes(dice, memory, 6)))

    def test_words_that_wait(self):
        one, other = ("light", "a", 1), ("paired", "a", 1)
        rows = [row for many in range(5) for row in product((one, other), repeat=many)]
        for words in rows:
            for wanted in rows:
                self.check(CLIENT + (words,), CLIENT + (wanted,))

    def test_sessions(self):
        dice = random.Random(25)
        for _ in range(100):
            memory = some_memory(dice, False)[:2] + (tuple(some_word(dice) for _ in range(dice.randrange(4))),)
            self.check(memory, some_memory(dice, False)[:2] + (memory[2][dice.randrange(3):],))
            more = tuple(some_word(dice) for _ in range(dice.randrange(3)))
            self.check(memory, memory[:2] + (memory[2][dice.randrange(4):] + more,))

    def test_room_for_words(self):
        words = tuple(("light", "a", body) for body in range(12))
        for many in range(13):
            wanted = words[many:] + tuple(("light", "b", body) for body in range(many))
            changes = changes_between(CLIENT + (words,), CLIENT + (wanted,))
            self.assertEqual(len(changes), 2 * many)
            self.assertEqual(changed(CLIENT + (words,), changes)[2], wanted)

    def test_forty_changes(self):
        gone = tuple(("light", "a", body) for body in range(12))
        first = (tuple((number, "marked", "sent", "a", 1) for number in range(8)), (), gone)
        changes = changes_between(first, FULL_SESSION)
        self.assertEqual(len(changes), 40)
        self.assertEqual(changed(first, changes), FULL_SESSION)
        self.assertEqual(changed(FULL_SESSION, changes_between(FULL_SESSION, EMPTY_SESSION)), EMPTY_SESSION)

    def test_the_same(self):
        for memory in (EMPTY_CLIENT, FULL_SESSION, MEMORY):
            self.assertEqual(changes_between(memory, memory), ())

    def test_unlike(self):
        for memory, other in ((EMPTY_CLIENT, EMPTY_SESSION), (MEMORY, CLIENT), (CLIENT, MEMORY)):
            with self.assertRaises(Unlike):
                changes_between(memory, other)


class Octets(unittest.TestCase):
    def test_octets(self):
        for change, octets in (
            (PUT, (1, 1, 2, 1, 3, 97, 47, 98, 1, 44)), (GONE, (2, 1)), (HOLD, (3, 1)), (FREE, (4, 1)),
            (WAIT, (5, 0, 1, 98, 0, 2)), (WENT, (6,)), (("put", (0, "marked", "sent", "z", 255)),
            (1, 0, 1, 0, 1, 122, 0, 255)), (("wait", "paired", "a", 999), (5, 2, 1, 97, 3, 231)),
        ):
            self.assertEqual(change_octets(change), octets)

    def test_beside_another_telling(self):
        dice = random.Random(50)
        for _ in range(300):
            change = some_change(dice)
            self.assertEqual(change_octets(change), tuple(octets_told(change)))


class Arguments(ArgumentChecks, unittest.TestCase):
    def test_wrong_arguments(self):
        memories = (list(MEMORY), MEMORY + ((),), (MEMORY[0],), replaced(MEMORY, (1,), (8,)))
        changes = (("put",), ("gone", 8), ("lose", 1), list(PUT), ("went", 1))
        rows = ((HOLD, ("gone", 8)), [HOLD], HOLD, (HOLD, FREE) * 20 + (HOLD,), (list(HOLD),))
        self.check_arguments(can_change, (MEMORY, HOLD), (InvalidMemory, InvalidChange), (memories, changes))
        self.check_arguments(changed, (MEMORY, (HOLD,)), (InvalidMemory, InvalidChanges), (memories, rows))
        self.check_arguments(changes_between, (MEMORY, MEMORY), (InvalidMemory,) * 2, (memories, memories))
        self.check_arguments(change_octets, (PUT,), (InvalidChange,), (changes,))

    def test_further_errors_come_last(self):
        self.check_error(changed, (MEMORY, (("free", 7), ("free", 8))), InvalidChanges)
        self.check_error(changed, (MEMORY, (("free", 7),)), CannotChange)
        self.check_error(changes_between, (EMPTY_CLIENT, (0,)), InvalidMemory)


if __name__ == "__main__":
    unittest.main()
