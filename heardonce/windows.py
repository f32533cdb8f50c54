"""Windows: words that go with the rest of their index, and answers that tell how far the taking has come."""

from heardonce.checks import is_integer
from heardonce.errors import CannotHappen, InvalidEvents, InvalidSizes

MOST_EVENTS = 200
MOST_INDEX = 80
MOST_THERE = 12
WINDOW_SIDES = ("there", "back")
FIRST_STATE = (0, 0, 0, (), (), (), False)


def are_sizes(value):
    """Tell whether any value is sizes of windows."""
    return (
        isinstance(value, tuple) and len(value) == 4 and is_integer(value[0], 1, 16) and is_integer(value[1], 1, 8)
        and is_integer(value[2], 1, 8) and isinstance(value[3], bool)
    )


def check_sizes(sizes):
    if not are_sizes(sizes):
        raise InvalidSizes("not sizes of windows")


def is_window_event(value):
    """Tell whether any value is a window event, whether it can happen or not."""
    if not isinstance(value, tuple) or not value:
        return False
    if value[0] in ("give", "word", "answer"):
        return len(value) == 1
    if value[0] == "again":
        return len(value) == 2 and is_integer(value[1], 0, MOST_INDEX)
    return (
        value[0] in ("lose", "double", "turn") and len(value) == 3 and value[1] in WINDOW_SIDES
        and is_integer(value[2], 0, MOST_THERE - 1)
    )


def is_within_bounds(state):
    """Tell whether what a window event leads to is a window state."""
    base, ahead, place, kept, there, back, _ = state
    if len(there) > MOST_THERE or len(back) > MOST_THERE:
        return False
    return max((base, ahead, place) + kept + there + back) <= MOST_INDEX


def first_like(index, start, ring):
    """The first index from a start on that goes with the same rest as an index."""
    return start + (index - start) % ring


def behind_give(sizes, state):
    base, ahead, place, kept, there, back, harmed = state
    if ahead >= base + sizes[1]:
        return None
    return base, ahead + 1, place, kept, there + (ahead,), back, harmed


def behind_again(state, index):
    base, ahead, place, kept, there, back, harmed = state
    if not base <= index < ahead:
        return None
    return base, ahead, place, kept, there + (index,), back, harmed


def behind_word(sizes, state):
    base, ahead, place, kept, there, back, harmed = state
    if not there:
        return None
    index = first_like(there[0], place, sizes[0])
    if index < place + sizes[2] and index not in kept:
        harmed = harmed or index != there[0]
        kept = tuple(sorted(kept + (index,)))
        while place in kept:
            place += 1
        kept = tuple(later for later in kept if later > place)
    return base, ahead, place, kept, there[1:], back + (place,), harmed


def behind_answer(sizes, state):
    base, ahead, place, kept, there, back, harmed = state
    if not back:
        return None
    told = first_like(back[0], base, sizes[0])
    if base < told <= ahead:
        harmed = harmed or told != back[0]
        base = told
    return base, ahead, place, kept, there, back[1:], harmed


def with_harm(row, word, at):
    """The tuple behind a loss, a doubling or a turn at an index, or None if it can't happen."""
    picked, rest = row[at:at + 1], row[at + 1:]
    if not picked or (word == "turn" and not rest):
        return None
    if word == "lose":
        return row[:at] + rest
    if word == "double":
        return row[:at] + picked * 2 + rest
    return row[:at] + rest[:1] + picked + rest[1:]


def behind_harm(sizes, state, event):
    word, side, at = event
    index = 4 + WINDOW_SIDES.index(side)
    row = with_harm(state[index], word, at)
    if row is None or (word == "turn" and not sizes[3]):
        return None
    return state[:index] + (row,) + state[index + 1:]


def behind_any(sizes, state, event):
    """What a window event leads to, be it a window state or not, or None if what it needs is not there."""
    if event[0] == "give":
        return behind_give(sizes, state)
    if event[0] == "again":
        return behind_again(state, event[1])
    if event[0] == "word":
        return behind_word(sizes, state)
    if event[0] == "answer":
        return behind_answer(sizes, state)
    return behind_harm(sizes, state, event)


def behind_event(sizes, state, event):
    """The window state behind a window event, or None if it can't happen."""
    state = behind_any(sizes, state, event)
    return state if state is not None and is_within_bounds(state) else None


def state_after(sizes, events):
    state = FIRST_STATE
    for event in events:
        after = behind_event(sizes, state, event)
        if after is None:
            raise CannotHappen("a window event can't happen")
        state = after
    return state


def check_window_events(events):
    if not isinstance(events, tuple) or len(events) > MOST_EVENTS or not all([is_window_event(one) for one in events]):
        raise InvalidEvents("not a tuple of window events")


def window_behind(sizes, events):
    """The window state behind some window events, one after another."""
    check_sizes(sizes)
    check_window_events(events)
    return state_after(sizes, events)


def possible_window_events(sizes, state):
    """The ascending list of all window events that can happen in a window state."""
    events = [("give",), ("word",), ("answer",)] + [("again", index) for index in range(state[0], state[1])]
    for side in WINDOW_SIDES:
        many = len(state[4 + WINDOW_SIDES.index(side)])
        events += [(word, side, at) for word in ("lose", "double", "turn") for at in range(many)]
    return sorted([event for event in events if behind_event(sizes, state, event) is not None])


def window_events(sizes, events):
    """The ascending list of all window events that can happen behind some other ones."""
    check_sizes(sizes)
    check_window_events(events)
    return possible_window_events(sizes, state_after(sizes, events))
