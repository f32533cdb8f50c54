"""[25], [26], [68], and of [3] what is read of tracks."""

import random
import unittest

from heardonce.errors import InvalidChanges, InvalidDisk, InvalidMemory, InvalidNumber, InvalidOctets
from heardonce.logtracks import begin_octets, lot_octets, read_disk, read_track, resumed
from tests.arguments import ArgumentChecks
from tests.memories import (
    EMPTY_CLIENT, EMPTY_SESSION, FULL_CLIENT, FULL_SESSION, LONGEST, MEMORY, begin, behind, block, changes_of, lot,
    octets_told, read, some_change, some_changes, some_memory,
)
from tests.values import replaced

HOLD, FREE = ("hold", 3), ("free", 3)
MEMORIES = (EMPTY_CLIENT, EMPTY_SESSION, FULL_CLIENT, FULL_SESSION, MEMORY, MEMORY[:2])
BEGIN = begin(7, 9, MEMORY)
TRACK = BEGIN + lot((HOLD, ("gone", 1))) + lot(()) + lot((("wait", "paired", "a", 300), ("went",), FREE))


def some_track(dice, is_client, lots):
    memory = some_memory(dice, is_client)
    track = begin(dice.randrange(256), dice.randrange(256), memory)
    for _ in range(lots):
        changes = some_changes(dice, memory, 5)
        memory, track = behind(memory, changes), track + lot(changes)
    return track[:1000], memory


class Lots(unittest.TestCase):
    def test_lots(self):
        self.assertEqual(lot_octets(()), (20, 0, 0, 20))
        self.assertEqual(lot_octets((HOLD,)), (20, 0, 2, 3, 3, 28))
        self.assertEqual(lot_octets((FREE, FREE)), (20, 0, 4, 4, 3, 4, 3, 38))

    def test_beside_another_telling(self):
        dice = random.Random(68)
        for many in list(range(41)) * 3:
            changes = tuple(some_change(dice) for _ in range(many))
            self.assertEqual(lot_octets(changes), lot(changes))

    def test_greatest_lot(self):
        changes = (("put", (7, "paired", "let", LONGEST, 999)),) * 40
        octets = lot_octets(changes)
        self.assertEqual(len(octets), 40 * 41 + 4)
        self.assertEqual(octets[:3], (20, 6, 104))
        self.assertEqual(octets, lot(changes))

    def test_changes_that_can_not_be_done(self):
        changes = (("gone", 1), ("gone", 1), ("went",))
        self.assertEqual(lot_octets(changes), lot(changes))


class Begins(unittest.TestCase):
    def test_begins(self):
        self.assertEqual(begin_octets(0, 0, EMPTY_CLIENT), (21, 0, 0, 0, 0, 21))
        self.assertEqual(begin_octets(1, 2, EMPTY_SESSION), (22, 1, 2, 0, 0, 25))
        self.assertEqual(begin_octets(255, 255, ((), (3, 5))), (21, 255, 255, 0, 4, 3, 3, 3, 5, 37))
        self.assertEqual(len(begin_octets(0, 0, FULL_SESSION)), 6 + 8 * 41 + 8 * 2 + 12 * 39)

    def test_beside_another_telling(self):
        dice = random.Random(26)
        for seed in range(200):
            memory = some_memory(dice, seed % 2)
            turn, steps = dice.randrange(256), dice.randrange(256)
            octets = begin_octets(turn, steps, memory)
            self.assertEqual(octets, begin(turn, steps, memory))
            self.assertEqual(read_track(octets), (turn, steps, memory, len(octets)))

    def test_full_and_empty(self):
        for memory in MEMORIES:
            for turn, steps in ((0, 0), (255, 0), (0, 255), (255, 255)):
                octets = begin_octets(turn, steps, memory)
                self.assertEqual(octets, begin(turn, steps, memory))
                self.assertEqual(read_track(octets), (turn, steps, memory, len(octets)))

    def test_just_outside(self):
        for number in (-1, 256, 1000, True, None):
            with self.assertRaises(InvalidNumber):
                begin_octets(number, 0, MEMORY)
            with self.assertRaises(InvalidNumber):
                begin_octets(0, number, MEMORY)


class Tracks(unittest.TestCase):
    def test_whole(self):
        self.assertEqual(read_track(BEGIN), (7, 9, MEMORY, len(BEGIN)))
        told = behind(MEMORY, (HOLD, ("gone", 1), ("wait", "paired", "a", 300), ("went",), FREE))
        self.assertEqual(read_track(TRACK), (7, 12, told, len(TRACK)))
        self.assertIsNone(read_track(()))

    def test_rows(self):
        dice = random.Random(27)
        for seed in range(150):
            track, memory = some_track(dice, seed % 2, dice.randrange(8))
            told = read_track(track)
            self.assertEqual(told, read(track))
            if len(track) < 1000:
                self.assertEqual(told[2:], (memory, len(track)))

    def test_cut_at_each_place(self):
        ends = [len(BEGIN), len(BEGIN) + 8, len(BEGIN) + 12, len(TRACK)]
        for at in range(len(TRACK) + 1):
            told = read_track(TRACK[:at])
            self.assertEqual(told, read(TRACK[:at]))
            whole = [end for end in ends if end <= at]
            self.assertEqual(told and told[3], whole[-1] if whole else None)
            self.assertEqual(told and told[1], 9 + len(whole) - 1 if whole else None)

    def test_each_octet_replaced_by_each_other(self):
        client = begin(0, 3, ((MEMORY[0][0],), (2,)))
        track = client + lot((HOLD,)) + lot((("put", (5, "paired", "sent", "b", 1)), FREE))
        lots = (len(client), len(client) + 6)
        for at, right in enumerate(track):
            for octet in range(256):
                bent = track[:at] + (octet,) + track[at + 1:]
                told = read_track(bent)
                self.assertEqual(told, read(bent), bent)
                # One octet of the changes of a lot, or its check: this lot is not read.
                for start, end in zip(lots, lots[1:] + (len(track),)):
                    if start + 3 <= at < end and octet != right:
                        self.assertLessEqual(told[3], start)

    def test_each_octet_of_a_session_bent(self):
        dice = random.Random(28)
        for at in range(len(TRACK)):
            for octet in dice.sample(range(256), 20) + [0, 1, 2, 3, 20, 21, 22, 255]:
                bent = TRACK[:at] + (octet,) + TRACK[at + 1:]
                self.assertEqual(read_track(bent), read(bent), bent)

    def test_right_checks_of_wrong_octets(self):
        """Octets of changes bent so that the check is still right."""
        dice = random.Random(29)
        read_on = 0
        for _ in range(3000):
            octets = [octet for change in changes_of(MEMORY)[:dice.randrange(1, 5)] for octet in octets_told(change)]
            at = dice.randrange(len(octets))
            octets[at] = dice.choice((octets[at] + 1, octets[at] - 1, 0, 8, dice.randrange(256))) % 256
            head = [20, 0, len(octets)] + octets
            track = BEGIN + tuple(head + [sum(head) % 256])
            self.assertEqual(read_track(track), read(track))
            read_on += read_track(track)[3] > len(BEGIN)
        self.assertTrue(100 < read_on < 2900)

    def test_lots_whose_changes_can_not_be_done(self):
        for changes in (
            (("gone", 0),), (("hold", 0),), (FREE,), (HOLD, HOLD), (("went",), ("went",)),
            (("wait", "light", "a", 1),) * 12,
        ):
            track = BEGIN + lot((HOLD, FREE)) + lot(changes) + lot(())
            self.assertEqual(read_track(track), (7, 10, MEMORY, len(BEGIN) + 8), changes)
        client = begin(0, 0, EMPTY_CLIENT)
        for change in (("wait", "light", "a", 1), ("went",)):
            self.assertEqual(read_track(client + lot((change,))), (0, 0, EMPTY_CLIENT, 6))
        self.assertEqual(read_track(BEGIN + lot((("wait", "light", "a", 1),) * 11))[1], 10)

    def test_octets_that_are_no_changes(self):
        for octets in (
            (0,), (7,), (3,), (3, 8), (6, 6), (1, 0, 0, 0, 1, 97, 0, 1), (1, 0, 1, 1, 1, 97, 0, 1), (5, 3, 1, 97, 0, 1),
            (5, 0, 0, 0, 1), (5, 0, 1, 65, 0, 1), (5, 0, 1, 35, 0, 1), (5, 0, 1, 43, 0, 1), (5, 0, 1, 47, 0, 1),
            (5, 0, 1, 97, 3, 232), (5, 0, 1, 97, 4, 0), (5, 0, 2, 97, 0, 1), (5, 0, 1, 97, 0), (3, 3, 3),
            (5, 0, 7) + (97,) * 7 + (0, 1), (5, 0, 200, 97, 0, 1), (2,), (1, 5, 2, 2, 1, 97, 0, 1),
        ):
            head = (20, 0, len(octets)) + octets
            told = read_track(BEGIN + head + (sum(head) % 256,))
            self.assertEqual(told, (7, 9, MEMORY, len(BEGIN)), octets)

    def test_begins_told_wrong(self):
        first, second = [("put", entry) for entry in MEMORY[0]]
        wait = ("wait", "light", "a", 1)
        for head, changes in (
            ((21, 0, 0), (second, first)), ((21, 0, 0), (first, first)), ((21, 0, 0), (HOLD, first)),
            ((21, 0, 0), (("hold", 4), HOLD)), ((21, 0, 0), (HOLD, HOLD)), ((22, 0, 0), (wait, HOLD)),
            ((22, 0, 0), (wait, first)), ((21, 0, 0), (wait,)), ((21, 0, 0), (HOLD, FREE)),
            ((22, 0, 0), (wait, ("went",))), ((21, 0, 0), (first, ("gone", 1))), ((22, 0, 0), (wait,) * 13),
            ((21, 0, 0), (first, ("put", (1,) + second[1][1:]))), ((20, 0, 0), ()), ((23, 0, 0), ()),
            ((0, 0, 0), ()), ((21, 0, 0), (HOLD, ("hold", 2), ("free", 2))),
        ):
            self.assertIsNone(read_track(block(head, changes)), (head, changes))
        self.assertIsNotNone(read_track(block((21, 0, 0), (first, second, HOLD, ("hold", 4)))))
        self.assertEqual(read_track(block((22, 0, 0), (first, HOLD) + (wait,) * 12))[2][2], (wait[1:],) * 12)

    def test_a_begin_with_a_wrong_check(self):
        for octet in range(256):
            told = read_track(BEGIN[:-1] + (octet,) + TRACK[len(BEGIN):])
            self.assertIs(told is None, octet != BEGIN[-1])

    def test_another_kind_behind(self):
        for more in (BEGIN, (19,) + lot(())[1:], (20,), (0, 0, 0, 0), begin(8, 0, EMPTY_CLIENT) + lot(())):
            self.assertEqual(read_track(TRACK + more), read_track(TRACK))
        self.assertEqual(read_track(TRACK + lot(()))[3], len(TRACK) + 4)
        self.assertEqual(read_track(TRACK + BEGIN + lot(())), read_track(TRACK))

    def test_steps_above_an_octet(self):
        track = begin(255, 255, EMPTY_CLIENT) + lot(()) * 248
        self.assertEqual(read_track(track), (255, 255 + 248, EMPTY_CLIENT, len(track)))
        self.assertEqual(read_track(begin(0, 250, EMPTY_CLIENT) + lot(()) * 9)[1], 259)

    def test_lots_of_many_changes(self):
        # Lots are read however many changes they have.
        for many in (20, 21, 100, 240):
            track = begin(0, 0, EMPTY_CLIENT) + lot((HOLD, FREE) * many)
            self.assertEqual(read_track(track), (0, 1, EMPTY_CLIENT, len(track)))
        track = begin(0, 0, EMPTY_SESSION) + lot((("wait", "light", LONGEST, 1),) * 12)
        self.assertEqual(read_track(track)[2], ((), (), (("light", LONGEST, 1),) * 12))


class Disks(unittest.TestCase):
    def test_the_greater_turn(self):
        one, other = begin(3, 1, EMPTY_CLIENT) + lot((HOLD,)), begin(4, 1, MEMORY)
        self.assertEqual(read_disk((one, other)), (1, MEMORY))
        self.assertEqual(read_disk((other, one)), (1, MEMORY))
        self.assertEqual(read_disk((one, begin(2, 200, MEMORY))), (2, ((), (3,))))
        self.assertEqual(read_disk((begin(255, 0, MEMORY), one)), (0, MEMORY))

    def test_the_same_turn(self):
        one, other = begin(3, 1, EMPTY_CLIENT) + lot((HOLD,)), begin(3, 9, MEMORY)
        self.assertEqual(read_disk((one, other)), (2, ((), (3,))))
        self.assertEqual(read_disk((other, one)), (9, MEMORY))

    def test_not_readable(self):
        one = begin(3, 1, MEMORY)
        for other in ((), one[:-1], begin(200, 5, EMPTY_CLIENT)[:5], (20, 0, 0, 20), (0,) * 1000):
            self.assertEqual(read_disk((one, other)), (1, MEMORY))
            self.assertEqual(read_disk((other, one)), (1, MEMORY))
            self.assertIsNone(read_disk((other, other)))

    def test_resumed(self):
        more = lot((HOLD,))[:5]
        one, other = begin(3, 1, EMPTY_CLIENT), TRACK
        self.assertEqual(resumed((one + more, other + more)), (one, other))
        self.assertEqual(resumed((other[:-1], one[:-1])), (other[:len(BEGIN) + 12], ()))
        self.assertEqual(resumed(((), ())), ((), ()))
        self.assertEqual(resumed(((21, 0), (20, 0, 0, 20))), ((), ()))

    def test_rows(self):
        dice = random.Random(31)
        for seed in range(150):
            disk = tuple(
                track[:dice.randrange(len(track) + 1)] if dice.randrange(3) else track
                for track, _ in (some_track(dice, seed % 2, dice.randrange(5)) for _ in range(2))
            )
            told = [read(track) for track in disk]
            after = resumed(disk)
            self.assertEqual(after, tuple(track[:one[3]] if one else () for track, one in zip(disk, told)))
            self.assertEqual(resumed(after), after)
            found = sorted((one for one in told if one), key=lambda one: -one[0])
            self.assertEqual(read_disk(disk), found[0][1:3] if found else None)
            self.assertEqual(read_disk(after), read_disk(disk))
            self.check_written_on(after, told)

    def check_written_on(self, after, told):
        """A lot written behind what is resumed is read."""
        for track, one in zip(after, told):
            if one and len(track) < 990:
                change = ("hold", min(set(range(8)) - set(one[2][1]), default=0))
                if change[1] not in one[2][1]:
                    memory = behind(one[2], (change,))
                    self.assertEqual(read_track(track + lot((change,))), (one[0], one[1] + 1, memory, len(track) + 6))


class Arguments(ArgumentChecks, unittest.TestCase):
    def test_wrong_arguments(self):
        memories = (list(MEMORY), MEMORY + ((),), (MEMORY[0],), replaced(MEMORY, (1,), (8,)))
        rows = ((HOLD, ("gone", 8)), [HOLD], HOLD, (HOLD, FREE) * 20 + (HOLD,), (list(HOLD),))
        octets = (list(TRACK), (0,) * 1001, TRACK + (256,), TRACK + (-1,), (True,), ("a",))
        disks = ((TRACK,), (TRACK, TRACK, TRACK), [TRACK, TRACK], TRACK, (TRACK, [0])) + tuple(
            disk for wrong in octets for disk in ((TRACK, wrong), (wrong, TRACK))
        )
        self.check_arguments(lot_octets, ((HOLD,),), (InvalidChanges,), (rows,))
        self.check_arguments(
            begin_octets, (0, 255, MEMORY), (InvalidNumber, InvalidNumber, InvalidMemory),
            ((256, -1, "0"), (256, -1, "0"), memories),
        )
        self.check_arguments(read_track, (TRACK,), (InvalidOctets,), (octets,), fine=((0, 0),))
        for function in (read_disk, resumed):
            self.check_arguments(function, ((TRACK, BEGIN),), (InvalidDisk,), (disks,))

    def test_longest_tracks(self):
        self.assertIsNone(read_track((0,) * 1000))
        self.assertIsNone(read_disk(((0,) * 1000, (255,) * 1000)))


if __name__ == "__main__":
    unittest.main()
