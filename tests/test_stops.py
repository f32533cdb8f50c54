"""[27], [28], [69], and of [3] what stops leave."""

import random
import unittest
from itertools import product

from heardonce.errors import InvalidDiary, InvalidMemory, InvalidStop
from heardonce.logtracks import begin_octets, lot_octets, read_disk, resumed
from heardonce.stops import (
    disk_kept, disk_of, harm_of, held_of, is_diary, is_harmful, sure_steps, told_steps,
)
from tests.arguments import ArgumentChecks
from tests.diaries import Diary, diaries, some_diary
from tests.memories import (
    EMPTY_CLIENT, EMPTY_SESSION, FULL_SESSION, LONGEST, MEMORY, Impossible, behind, some_memory,
)
from tests.values import ODD_VALUES, bent, replaced

HOLD, TELL, SHORT = ("hold",), ("tell",), ("short",)
CHANGE, BACK = ("change", (("hold", 3),)), ("change", (("free", 3),))
EMPTY = EMPTY_CLIENT


class Diaries(unittest.TestCase):
    def test_all_rows_of_acts(self):
        """Each act at each place, beside another telling."""
        acts = (CHANGE, BACK, HOLD, TELL, SHORT)
        for many in range(6):
            for diary in product(acts, repeat=many):
                self.check_diary(EMPTY, diary)

    def check_diary(self, memory, acts):
        told = Diary(memory)
        try:
            for act in acts:
                told.do(act)
        except Impossible:
            self.assertIs(is_diary(memory, acts), False, acts)
            return
        self.assertIs(is_diary(memory, acts), True, acts)
        self.assertEqual(disk_of(memory, acts), told.disk())
        self.assertEqual(held_of(memory, acts), told.held())
        self.assertEqual(sure_steps(memory, acts), told.sure())
        self.assertEqual(told_steps(memory, acts), told.told)

    def test_act_by_act(self):
        dice = random.Random(69)
        for seed in range(60):
            memory = some_memory(dice, seed % 2)
            acts = some_diary(dice, memory, 40)
            for many in range(len(acts) + 1):
                self.check_diary(memory, acts[:many])

    def test_at_most_forty_acts(self):
        for act in (HOLD, TELL, SHORT, ("change", ())):
            self.assertIs(is_diary(MEMORY, (act,) * 40), True)
            self.assertIs(is_diary(MEMORY, (act,) * 41), False)
        self.assertIs(is_diary(MEMORY, ()), True)
        self.check_diary(MEMORY, (SHORT, TELL) * 20)
        self.check_diary(EMPTY, (CHANGE, HOLD, BACK, TELL) * 10)

    def test_at_most_forty_changes(self):
        changes = (("hold", 3), ("free", 3)) * 20
        self.assertIs(is_diary(EMPTY, (("change", changes),)), True)
        self.assertIs(is_diary(EMPTY, (("change", changes + (("hold", 3),)),)), False)

    def test_changes_that_can_not_be_done(self):
        for acts in ((BACK,), (CHANGE, CHANGE), (CHANGE, BACK, BACK), (("change", (("went",),)),), (SHORT, BACK)):
            self.assertIs(is_diary(EMPTY, acts), False)
        self.assertIs(is_diary(EMPTY, (CHANGE, SHORT, BACK, SHORT, CHANGE)), True)
        self.assertIs(is_diary(EMPTY_SESSION, (("change", (("went",),)),)), False)
        self.assertIs(is_diary(EMPTY_SESSION, (("change", (("wait", "light", "a", 1), ("went",))),)), True)

    def test_longest_tracks(self):
        # A lot of 43 octets, and one of 5, again and again behind a begin of 6.
        word, went = ("change", (("wait", "light", LONGEST, 1),)), ("change", (("went",),))
        acts = (word, went) * 19 + (word,)
        self.assertEqual(len(disk_of(EMPTY_SESSION, acts)[0]), 961)
        holds = (("hold", 0), ("free", 0)) * 8
        for changes, size, fits in (
            (holds + (("went",),), 998, True), (holds + (("went",), ("hold", 0)), 1000, True),
            (holds + (("hold", 0), ("free", 0)), 1001, False),
            (holds + (("went",), ("hold", 0), ("free", 0)), 1002, False),
        ):
            last = ("change", changes)
            self.assertEqual(961 + len(lot_octets(changes)), size)
            self.assertIs(is_diary(EMPTY_SESSION, acts + (last,)), fits)
            self.check_diary(EMPTY_SESSION, acts + (last,))
            # The other track has room again.
            self.assertIs(is_diary(EMPTY_SESSION, acts[:38] + (SHORT, word)), True)
            self.assertIs(is_diary(EMPTY_SESSION, acts[:37] + (SHORT, word, last)), True)

    def test_a_full_begin(self):
        self.assertEqual(len(disk_of(FULL_SESSION, ())[0]), 818)
        self.check_diary(FULL_SESSION, (SHORT, ("change", (("free", 0),)), HOLD, SHORT))

    def test_turns_and_steps(self):
        acts = (CHANGE, BACK, SHORT, CHANGE, SHORT, SHORT)
        held = ((), (3,))
        self.assertEqual(disk_of(EMPTY, acts), (begin_octets(2, 3, held), begin_octets(3, 3, held)))
        self.assertEqual(disk_of(EMPTY, acts[:4]), (
            begin_octets(0, 0, EMPTY) + lot_octets(CHANGE[1]) + lot_octets(BACK[1]),
            begin_octets(1, 2, EMPTY) + lot_octets(CHANGE[1]),
        ))

    def test_any_value(self):
        acts = (CHANGE, HOLD, TELL, SHORT, BACK)
        self.assertIs(is_diary(EMPTY, acts), True)
        for value in bent(acts) + list(ODD_VALUES) + [list(acts), acts + (0,), (("change", (("lose", 1),)),)]:
            self.assertIs(is_diary(EMPTY, value), False, value)
        for act in (("hold", 0), ("change",), ("change", (), ()), ("change", [("hold", 3)]), ("keep",), "hold", ()):
            self.assertIs(is_diary(EMPTY, (act,)), False, act)


class Sure(unittest.TestCase):
    def test_sure_and_held(self):
        for acts, held, sure, told in (
            ((), (6, 0), 0, 0), ((CHANGE,), (6, 0), 0, 0), ((CHANGE, TELL), (6, 0), 0, 1),
            ((CHANGE, HOLD), (12, 0), 1, 0), ((CHANGE, HOLD, SHORT), (12, 0), 1, 0),
            ((CHANGE, SHORT), (6, 0), 0, 0), ((SHORT, HOLD), (6, 6), 0, 0),
            ((CHANGE, SHORT, HOLD), (12, 8), 1, 0), ((CHANGE, SHORT, HOLD, BACK), (12, 8), 1, 0),
            ((CHANGE, SHORT, HOLD, BACK, TELL, HOLD), (12, 14), 2, 2), ((SHORT, SHORT), (0, 0), None, 0),
            ((SHORT, HOLD, SHORT), (0, 6), 0, 0), ((CHANGE, SHORT, HOLD, SHORT, TELL), (0, 8), 1, 1),
        ):
            self.assertEqual(held_of(EMPTY, acts), held, acts)
            self.assertEqual(sure_steps(EMPTY, acts), sure, acts)
            self.assertEqual(told_steps(EMPTY, acts), told, acts)


class Stops(unittest.TestCase):
    def check_stops(self, memory, acts):
        """Each stop of a diary, one by one."""
        some_harm = False
        for at, diary in enumerate(diaries(memory, acts)):
            harmful = []
            for one, other in diary.stops():
                disk = disk_kept(memory, acts, (at, one, other))
                self.assertEqual(disk, diary.kept(one, other))
                harmful.append(diary.is_harmful(one, other))
                self.assertIs(is_harmful(memory, acts, (at, one, other)), harmful[-1])
                self.check_read(diary, disk)
            # There is a harmful stop just where fewer steps are sure than were told, or none.
            self.assertIs(any(harmful), diary.sure() is None or diary.sure() < diary.told)
            some_harm = some_harm or any(harmful)
        harm = harm_of(memory, acts)
        self.assertIs(harm is not None, some_harm)
        if harm is not None:
            self.assertIs(is_harmful(memory, acts, harm), True)
        return some_harm

    def check_read(self, diary, disk):
        """What is read is a number of steps, and the memory behind so many."""
        told = read_disk(disk)
        if told is not None:
            self.assertEqual(told[1], diary.memories[told[0]])
        self.assertEqual(read_disk(resumed(disk)), told)

    def test_all_small_diaries(self):
        found = set()
        for many in range(4):
            for acts in product((CHANGE, HOLD, TELL, SHORT), repeat=many):
                if acts.count(CHANGE) < 2:
                    found.add(self.check_stops(EMPTY, acts))
        self.assertEqual(found, {False, True})

    def test_diaries_by_chance(self):
        dice = random.Random(28)
        found = set()
        for seed in range(40):
            memory = some_memory(dice, True)
            memory = (memory[0][:1], memory[1][:2])
            found.add(self.check_stops(memory, some_diary(dice, memory, 5)))
        self.assertEqual(found, {False, True})

    def test_harm_beside_another_telling(self):
        dice = random.Random(70)
        found = set()
        for seed in range(300):
            memory = some_memory(dice, seed % 2)
            acts = some_diary(dice, memory, 8)
            told = diaries(memory, acts)
            is_some = any(diary.sure() is None or diary.sure() < diary.told for diary in told)
            harm = harm_of(memory, acts)
            self.assertIs(harm is not None, is_some)
            if is_some:
                self.assertTrue(told[harm[0]].is_harmful(*harm[1:]))
                self.assertIn(harm[1:], told[harm[0]].stops())
            found.add(is_some)
        self.assertEqual(found, {False, True})

    def test_diaries_without_harm(self):
        """Each "tell" has a "hold" just ahead of it, and each "short" has one just behind it."""
        dice = random.Random(71)
        for seed in range(100):
            memory, acts = some_memory(dice, seed % 2), ()
            for act in some_diary(dice, memory, 16):
                acts += {"tell": (HOLD, TELL), "short": (SHORT, HOLD)}.get(act[0], (act,))
            self.assertIsNone(harm_of(memory, acts))

    def test_just_outside(self):
        acts = (CHANGE, HOLD, SHORT, BACK)
        for at, diary in enumerate(diaries(EMPTY, acts)):
            least, most = diary.held(), tuple(map(len, diary.disk()))
            edges = [(low - 1, low, high, high + 1) for low, high in zip(least, most)]
            for one, other in product(*edges):
                is_one = least[0] <= one <= most[0] and least[1] <= other <= most[1]
                for function in (disk_kept, is_harmful):
                    if is_one:
                        function(EMPTY, acts, (at, one, other))
                    else:
                        with self.assertRaises(InvalidStop):
                            function(EMPTY, acts, (at, one, other))
        for function in (disk_kept, is_harmful):
            for stop in ((-1, 6, 0), (5, 12, 0), (40, 0, 0)):
                with self.assertRaises(InvalidStop):
                    function(EMPTY, acts, stop)

    def test_values_of_other_kinds(self):
        others = [(0, 6), (0, 6, 0, 0), [0, 6, 0], (True, 6, 0), (0, 6, False)]
        for value in bent((0, 6, 0)) + list(ODD_VALUES) + others:
            for function in (disk_kept, is_harmful):
                with self.assertRaises(InvalidStop):
                    function(EMPTY, (CHANGE,), value)


class Arguments(ArgumentChecks, unittest.TestCase):
    def test_wrong_arguments(self):
        memories = (list(MEMORY), MEMORY + ((),), (MEMORY[0],), replaced(MEMORY, (1,), (8,)))
        rows = ((BACK, BACK), [HOLD], HOLD, (HOLD,) * 41, (("change",),), (("change", (("hold", 4),)),))
        stops = ((0, 5, 0), (1, 6, 0, 0), [0, 6, 0], ("0", 6, 0))
        right = (MEMORY, (HOLD, CHANGE))
        for function in (disk_of, held_of, sure_steps, told_steps, harm_of):
            self.check_arguments(function, right, (InvalidMemory, InvalidDiary), (memories, rows))
        self.check_arguments(is_diary, right, (InvalidMemory, None), (memories, ()))
        size = len(disk_of(MEMORY, ())[0])
        for function in (disk_kept, is_harmful):
            self.check_arguments(
                function, right + ((1, size, 0),), (InvalidMemory, InvalidDiary, InvalidStop), (memories, rows, stops),
            )

    def test_diaries_of_other_memories(self):
        self.assertEqual(behind(EMPTY, CHANGE[1]), ((), (3,)))
        self.check_error(disk_of, (((), (3,)), (CHANGE,)), InvalidDiary)


if __name__ == "__main__":
    unittest.main()
