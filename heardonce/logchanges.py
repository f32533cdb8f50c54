"""Changes of memories, those of clients and those of sessions."""

from heardonce.checks import is_row
from heardonce.errors import CannotChange, InvalidChange, InvalidChanges, InvalidMemory, Unlike
from heardonce.frames import is_number, item_octets
from heardonce.worlds import MOST_WAITING, is_client_memory, is_entry, is_session_memory, is_word

# In the order of the kinds of octets, with what the items of each are.
CHANGES = ("put", "gone", "hold", "free", "wait", "went")
CHANGE_ITEMS = {
    "put": ("number", "way", "state", "topic", "body"),
    "gone": ("number",),
    "hold": ("number",),
    "free": ("number",),
    "wait": ("way", "topic", "body"),
    "went": (),
}
ENTRY_STATES = ("sent", "let")
MOST_CHANGES = 40


def is_memory(value):
    """Tell whether any value is a memory."""
    return is_client_memory(value) or is_session_memory(value)


def is_change(value):
    """Tell whether any value is a change."""
    if not isinstance(value, tuple) or not value or value[0] not in CHANGES:
        return False
    if value[0] == "put":
        return len(value) == 2 and is_entry(value[1])
    if value[0] == "wait":
        return is_word(value[1:])
    if value[0] == "went":
        return len(value) == 1
    return len(value) == 2 and is_number(value[1])


def are_changes(value):
    """Tell whether any value is a tuple of 0 to 40 changes."""
    return is_row(value, 0, MOST_CHANGES, is_change)


def check_memory(memory):
    if not is_memory(memory):
        raise InvalidMemory("not a memory")


def check_change(change):
    if not is_change(change):
        raise InvalidChange("not a change")


def check_changes(changes):
    if not are_changes(changes):
        raise InvalidChanges("not a tuple of changes")


def behind_giving(giving, change):
    """The giving book behind a "put" or a "gone", or None if it can't be done."""
    if change[0] == "put":
        entry = change[1]
        return tuple(sorted([other for other in giving if other[0] != entry[0]] + [entry]))
    left = tuple([entry for entry in giving if entry[0] != change[1]])
    return None if left == giving else left


def behind_taking(taking, change):
    """The taking book behind a "hold" or a "free", or None if it can't be done."""
    word, number = change
    if (number in taking) == (word == "hold"):
        return None
    if word == "hold":
        return tuple(sorted(taking + (number,)))
    return tuple([held for held in taking if held != number])


def behind_waiting(waiting, change):
    """What waits behind a "wait" or a "went", or None if it can't be done."""
    if change[0] == "wait":
        return waiting + (change[1:],) if len(waiting) < MOST_WAITING else None
    return waiting[1:] if waiting else None


def behind_change(memory, change):
    """The memory behind a change, or None if it can't be done."""
    if change[0] in ("put", "gone"):
        at, part = 0, behind_giving(memory[0], change)
    elif change[0] in ("hold", "free"):
        at, part = 1, behind_taking(memory[1], change)
    elif len(memory) == 3:
        at, part = 2, behind_waiting(memory[2], change)
    else:
        return None
    return None if part is None else memory[:at] + (part,) + memory[at + 1:]


def behind_changes(memory, changes):
    """The memory behind some changes, one after another, or None if one of them can't be done."""
    for change in changes:
        memory = behind_change(memory, change)
        if memory is None:
            return None
    return memory


def can_change(memory, change):
    """Tell whether a change can be done in a memory."""
    check_memory(memory)
    check_change(change)
    return behind_change(memory, change) is not None


def changed(memory, changes):
    """The memory behind some changes, one after another."""
    check_memory(memory)
    check_changes(changes)
    memory = behind_changes(memory, changes)
    if memory is None:
        raise CannotChange("a change can't be done")
    return memory


def giving_changes(giving, wanted):
    numbers = [entry[0] for entry in wanted]
    changes = [("gone", entry[0]) for entry in giving if entry[0] not in numbers]
    return changes + [("put", entry) for entry in wanted if entry not in giving]


def taking_changes(taking, wanted):
    changes = [("free", number) for number in taking if number not in wanted]
    return changes + [("hold", number) for number in wanted if number not in taking]


def waiting_changes(waiting, wanted):
    # The words that stay are the last ones now, and the first ones then: as many as can be.
    gone = 0
    while waiting[gone:] != wanted[:len(waiting) - gone]:
        gone += 1
    stay = len(waiting) - gone
    # The room of those that go may be needed.
    return [("went",)] * gone + [("wait",) + word for word in wanted[stay:]]


def changes_between(memory, other):
    """As few changes as can be that lead from a memory to another one."""
    check_memory(memory)
    check_memory(other)
    if len(memory) != len(other):
        raise Unlike("not two memories of clients, or of sessions")
    changes = giving_changes(memory[0], other[0]) + taking_changes(memory[1], other[1])
    if len(memory) == 3:
        changes += waiting_changes(memory[2], other[2])
    return tuple(changes)


def change_item_octets(sort, item):
    return (ENTRY_STATES.index(item),) if sort == "state" else item_octets(sort, item)


def octets_of_change(change):
    items = change[1] if change[0] == "put" else change[1:]
    octets = (1 + CHANGES.index(change[0]),)
    for sort, item in zip(CHANGE_ITEMS[change[0]], items):
        octets += change_item_octets(sort, item)
    return octets


def change_octets(change):
    """The octets of a change."""
    check_change(change)
    return octets_of_change(change)
