"""Tracks of changes: a begin of a memory, and lots of changes behind it; disks of two such tracks."""

from heardonce.checks import is_integer, is_row
from heardonce.errors import InvalidDisk, InvalidNumber
from heardonce.frames import MOST_OCTETS, check_octets, is_octet, sign_of
from heardonce.logchanges import (
    CHANGE_ITEMS, CHANGES, ENTRY_STATES, behind_changes, check_changes, check_memory, is_change, octets_of_change,
)
from heardonce.names import WAYS

LOT_KIND = 20
CLIENT_KIND = 21
SESSION_KIND = 22
EMPTY_MEMORIES = {21: ((), ()), 22: ((), (), ())}
MOST_NUMBER = 255


def check_number(number):
    if not is_integer(number, 0, MOST_NUMBER):
        raise InvalidNumber("not a number of one octet")


def is_track(value):
    return is_row(value, 0, MOST_OCTETS, is_octet)


def check_disk(disk):
    if not isinstance(disk, tuple) or len(disk) != 2 or not is_track(disk[0]) or not is_track(disk[1]):
        raise InvalidDisk("not a disk")


def with_check(head, changes):
    """The octets of a lot or a begin, with those ahead of its changes but for their number."""
    octets = ()
    for change in changes:
        octets += octets_of_change(change)
    octets = head + divmod(len(octets), 256) + octets
    return octets + (sum(octets) % 256,)


def octets_of_lot(changes):
    return with_check((LOT_KIND,), changes)


def lot_octets(changes):
    """The octets of a lot of changes."""
    check_changes(changes)
    return octets_of_lot(changes)


def making_changes(memory):
    """The list of the changes that make a memory out of an empty one, in the order in which a begin tells them."""
    changes = [("put", entry) for entry in memory[0]] + [("hold", number) for number in memory[1]]
    for waiting in memory[2:]:
        changes += [("wait",) + word for word in waiting]
    return changes


def octets_of_begin(turn, steps, memory):
    kind = CLIENT_KIND if len(memory) == 2 else SESSION_KIND
    return with_check((kind, turn, steps), making_changes(memory))


def begin_octets(turn, steps, memory):
    """The octets of a begin of a memory."""
    check_number(turn)
    check_number(steps)
    check_memory(memory)
    return octets_of_begin(turn, steps, memory)


def topic_told(octets):
    """The text that octets tell, its length first, and how many of them it takes, or None if they tell none."""
    many = octets[0]
    signs = [sign_of(octet) for octet in octets[1:many + 1]]
    if len(signs) < many or None in signs:
        return None
    return "".join(signs), many + 1


def body_told(octets):
    return (256 * octets[0] + octets[1], 2) if len(octets) > 1 else None


def item_told(sort, octets):
    """The item that octets begin with, right or wrong, and how many of them it takes, or None if they tell none."""
    if not octets:
        return None
    if sort == "topic":
        return topic_told(octets)
    if sort == "body":
        return body_told(octets)
    if sort == "number":
        return octets[0], 1
    words = WAYS if sort == "way" else ENTRY_STATES
    return (words[octets[0]], 1) if octets[0] < len(words) else None


def change_told(octets):
    """The change with whose octets some octets begin, or None."""
    if not 1 <= octets[0] <= len(CHANGES):
        return None
    word = CHANGES[octets[0] - 1]
    items, at = (), 1
    for sort in CHANGE_ITEMS[word]:
        told = item_told(sort, octets[at:])
        if told is None:
            return None
        item, many = told
        items += (item,)
        at += many
    change = (word, items) if word == "put" else (word,) + items
    return change if is_change(change) else None


def changes_told(octets):
    """The list of the changes whose octets these are, or None if they are others."""
    changes = []
    while octets:
        change = change_told(octets)
        if change is None:
            return None
        changes.append(change)
        octets = octets[len(octets_of_change(change)):]
    return changes


def block_told(octets, at, heads):
    """The changes of a lot or a begin, and the index behind it, or None if it is not whole, or wrong.

    It stands at an index, with so many octets of its head ahead of the number of those of its changes.
    """
    start = at + heads + 2
    if start > len(octets):
        return None
    end = start + 256 * octets[start - 2] + octets[start - 1]
    if end >= len(octets) or octets[end] != sum(octets[at:end]) % 256:
        return None
    changes = changes_told(octets[start:end])
    return None if changes is None else (changes, end + 1)


def begin_told(octets):
    """The memory of the begin with which octets begin, and the index behind it, or None."""
    if not octets or octets[0] not in EMPTY_MEMORIES:
        return None
    told = block_told(octets, 0, 3)
    if told is None:
        return None
    changes, behind = told
    memory = behind_changes(EMPTY_MEMORIES[octets[0]], changes)
    # Only one row of changes is told for a memory.
    if memory is None or making_changes(memory) != changes:
        return None
    return memory, behind


def lot_told(octets, at, memory):
    """The memory behind the lot at an index, and the index behind it, or None."""
    if octets[at:at + 1] != (LOT_KIND,):
        return None
    told = block_told(octets, at, 1)
    if told is None:
        return None
    changes, behind = told
    memory = behind_changes(memory, changes)
    return None if memory is None else (memory, behind)


def track_told(octets):
    """What is read of a track: its turn, its steps, its memory, and how many octets; or None."""
    begun = begin_told(octets)
    if begun is None:
        return None
    memory, at = begun
    steps = octets[2]
    told = lot_told(octets, at, memory)
    while told is not None:
        memory, at = told
        steps += 1
        told = lot_told(octets, at, memory)
    return octets[1], steps, memory, at


def read_track(octets):
    """What is read of a track: its turn, its steps, its memory, and how many octets; or None."""
    check_octets(octets)
    return track_told(octets)


def disk_told(disk):
    """The steps and the memory that are read of a disk, or None."""
    told = [track_told(track) for track in disk]
    read = [one for one in told if one is not None]
    if not read:
        return None
    # The first one of those with the greatest turn.
    best = max(read, key=lambda one: one[0])
    return best[1], best[2]


def read_disk(disk):
    """The steps and the memory that are read of a disk, or None."""
    check_disk(disk)
    return disk_told(disk)


def resumed_track(track):
    told = track_told(track)
    return () if told is None else track[:told[3]]


def resumed(disk):
    """The disk resumed: without all that is not read of its tracks."""
    check_disk(disk)
    return resumed_track(disk[0]), resumed_track(disk[1])
