"""Events in worlds, and the worlds behind them."""

from heardonce.arrivals import arrived, given_on
from heardonce.checks import is_integer
from heardonce.errors import CannotHappen, InvalidEvent, InvalidEvents
from heardonce.frames import is_item
from heardonce.names import is_name
from heardonce.parts import (
    frames_at, memory_at, with_frames, with_log_written, with_memory, with_stop, with_wishes,
)
from heardonce.worlds import MOST_FRAMES, MOST_ITEMS, MOST_WISHES, SIDES, check_world, names_of

MOST_EVENTS = 200
ITEMS_OF = {
    "give": ("name", "way", "topic", "body"),
    "wish": ("name", "wish", "way"),
    "unwish": ("name", "wish"),
    "pass": ("name",),
    "arrive": ("name", "side"),
    "lose": ("name", "side", "index"),
    "double": ("name", "side", "index"),
    "turn": ("name", "side", "index"),
    "again": ("name", "side", "number"),
    "write": ("hands",),
    "stop": ("hands",),
}
# The words of the events of which plans are made, and those of all others.
PLAN_WORDS = ("give", "wish", "unwish")
OTHER_WORDS = ("pass", "arrive", "lose", "double", "turn", "again", "write", "stop")


def is_event_item(sort, value):
    """Tell whether any value is an item of a sort, for an event."""
    if sort == "hands":
        return value == "" or is_name(value)
    if sort == "side":
        return value in SIDES
    if sort == "index":
        return is_integer(value, 0, MOST_FRAMES - 1)
    return is_item(sort, value)


def is_event(value):
    """Tell whether any value is an event."""
    if not isinstance(value, tuple) or not value or not isinstance(value[0], str) or value[0] not in ITEMS_OF:
        return False
    sorts = ITEMS_OF[value[0]]
    return len(value) == 1 + len(sorts) and all([is_event_item(sort, item) for sort, item in zip(sorts, value[1:])])


def check_event(event):
    if not is_event(event):
        raise InvalidEvent("not an event")


def behind_give(world, at, event):
    if len(world[5]) == MOST_ITEMS:
        return None
    world = given_on(world, at, "coming", event[2:])
    return None if world is None else world[:5] + (world[5] + (event[1:],), world[6])


def behind_wish(world, at, event):
    wish, way = event[2:]
    others = [pair for pair in world[2][at][1] if pair[0] != wish]
    return None if len(others) == MOST_WISHES else with_wishes(world, at, tuple(sorted(others + [(wish, way)])))


def behind_unwish(world, at, event):
    wishes = world[2][at][1]
    left = tuple([pair for pair in wishes if pair[0] != event[2]])
    return None if len(left) == len(wishes) else with_wishes(world, at, left)


def behind_pass(world, at):
    memory = world[2][at][2]
    if not memory[2]:
        return None
    return given_on(with_memory(world, at, "going", memory[:2] + (memory[2][1:],)), at, "going", memory[2][0])


def behind_harm(world, at, event):
    """The world behind a loss, a doubling or a turn on a line, or None if it can't happen."""
    word, _, side, index = event
    frames = frames_at(world, at, side)
    picked, rest = frames[index:index + 1], frames[index + 1:]
    if not picked or (word == "turn" and not rest):
        return None
    if word == "lose":
        picked = ()
    elif word == "turn":
        picked, rest = rest[:1] + picked, rest[1:]
    elif len(frames) == MOST_FRAMES or picked[0][:2] == ("word", "light"):
        return None
    else:
        picked = picked * 2
    return with_frames(world, at, side, frames[:index] + picked + rest)


def behind_again(world, at, event):
    side, number = event[2:]
    frames = frames_at(world, at, side)
    entries = [entry for entry in memory_at(world, at, side)[0] if entry[0] == number]
    if not entries or len(frames) == MOST_FRAMES:
        return None
    way, state, topic, body = entries[0][1:]
    frame = ("let", number) if state == "let" else ("word", way, number, True, topic, body)
    return with_frames(world, at, side, frames + (frame,))


def behind_of_hands(world, event):
    """The world behind a writing or a stop, or None if there is no such client."""
    word, name = event
    names = names_of(world)
    side = "going" if name == "" else "coming"
    indices = [at for at in range(len(names)) if name in ("", names[at])]
    for at in indices:
        world = with_log_written(world, at, side) if word == "write" else with_stop(world, at, side)
    return world if indices else None


def behind_at(world, at, event):
    """The world behind an event of the client with an index, or None if it can't happen."""
    word = event[0]
    if word == "arrive":
        return arrived(world, at, event[2])
    if word == "again":
        return behind_again(world, at, event)
    if word == "pass":
        return behind_pass(world, at)
    if word == "give":
        return behind_give(world, at, event)
    if word == "wish":
        return behind_wish(world, at, event)
    if word == "unwish":
        return behind_unwish(world, at, event)
    return behind_harm(world, at, event)


def with_all_logs(world):
    """The world in which the log of each hand has become its memory."""
    manner, clients, sessions, lines, due, given, owned = world
    clients = tuple([(name, memory, memory, heard) for name, memory, _, heard in clients])
    sessions = tuple([(name, wishes, memory, memory) for name, wishes, memory, _ in sessions])
    return manner, clients, sessions, lines, due, given, owned


def behind(world, event):
    """The world behind an event, or None if it can't happen, both being known to be such."""
    if event[0] in ("write", "stop"):
        after = behind_of_hands(world, event)
    else:
        names = names_of(world)
        after = behind_at(world, names.index(event[1]), event) if event[1] in names else None
    return with_all_logs(after) if after is not None and world[0][1] else after


def can_happen(world, event):
    """Tell whether an event can happen in a world."""
    check_world(world)
    check_event(event)
    return behind(world, event) is not None


def after_all(world, events):
    for event in events:
        after = behind(world, event)
        if after is None:
            raise CannotHappen("an event can't happen")
        world = after
    return world


def happened(world, event):
    """The world behind an event."""
    check_world(world)
    check_event(event)
    return after_all(world, (event,))


def check_events(events, most):
    if not isinstance(events, tuple) or len(events) > most or not all([is_event(event) for event in events]):
        raise InvalidEvents("not a tuple of events")


def happened_all(world, events):
    """The world behind some events, one after another."""
    check_world(world)
    check_events(events, MOST_EVENTS)
    return after_all(world, events)


def events_of_side(world, at, name, side, words):
    """All events of a side of a line, with one of some words, for which there is what they need."""
    frames, events = frames_at(world, at, side), []
    if frames and "arrive" in words:
        events.append(("arrive", name, side))
    if "again" in words:
        events += [("again", name, side, entry[0]) for entry in memory_at(world, at, side)[0]]
    for word, many in (("lose", len(frames)), ("double", len(frames)), ("turn", len(frames) - 1)):
        if word in words:
            events += [(word, name, side, index) for index in range(many)]
    return events


def events_with(world, words):
    """All events with one of some words, none of them a word of plans, for which there is what they need."""
    names, events = names_of(world), []
    for word in ("write", "stop"):
        if word in words:
            events += [(word, "")] + [(word, name) for name in names]
    for at, name in enumerate(names):
        if "pass" in words and world[2][at][2][2]:
            events.append(("pass", name))
        for side in SIDES:
            events += events_of_side(world, at, name, side, words)
    return events


def events_that_can(world):
    """The ascending list of all events that can happen, but for "give", "wish" and "unwish"."""
    check_world(world)
    return [event for event in sorted(events_with(world, OTHER_WORDS)) if behind(world, event) is not None]
