"""Events in worlds, and the worlds behind them."""

from heardonce.arrivals import arrived, given_on
from heardonce.checks import is_integer
from heardonce.errors import CannotHappen, InvalidEvent, InvalidEvents
from heardonce.frames import is_item
from heardonce.names import is_name
from heardonce.parts import (
    GIVEN, frames_path, giving_path, memory_path, part_of, waiting_path, wishes_path, with_more, with_part,
)
from heardonce.worlds import MOST_FRAMES, SIDES, check_world, has_room, names_of

MOST_EVENTS = 200
ITEMS_OF = {
    "give": ("name", "way", "topic", "body"),
    "wish": ("name", "wish", "way"),
    "unwish": ("name", "wish"),
    "pass": ("name",),
    "arrive": ("name", "side"),
    "lose": ("name", "side", "index"),
    "double": ("name", "side", "index"),
    "turn": ("name", "side", "index"),
    "again": ("name", "side", "number"),
    "write": ("hands",),
    "stop": ("hands",),
}
# The words of the events of which plans are made, and those of all others.
PLAN_WORDS = ("give", "wish", "unwish")
OTHER_WORDS = ("pass", "arrive", "lose", "double", "turn", "again", "write", "stop")


def is_event_item(sort, value):
    """Tell whether any value is an item of a sort, for an event."""
    if sort == "hands":
        return value == "" or is_name(value)
    if sort == "side":
        return value in SIDES
    if sort == "index":
        return is_integer(value, 0, MOST_FRAMES - 1)
    return is_item(sort, value)


def is_event(value):
    """Tell whether any value is an event."""
    if not isinstance(value, tuple) or not value or not isinstance(value[0], str) or value[0] not in ITEMS_OF:
        return False
    sorts = ITEMS_OF[value[0]]
    return len(value) == 1 + len(sorts) and all(is_event_item(sort, item) for sort, item in zip(sorts, value[1:]))


def check_event(event):
    if not is_event(event):
        raise InvalidEvent("not an event")


def behind_give(world, at, event):
    return given_on(with_more(world, GIVEN, event[1:]), at, "coming", event[2:])


def behind_wish(world, at, event):
    wish, way = event[2:]
    others = [pair for pair in part_of(world, wishes_path(at)) if pair[0] != wish]
    return with_part(world, wishes_path(at), tuple(sorted(others + [(wish, way)])))


def behind_unwish(world, at, event):
    wishes = part_of(world, wishes_path(at))
    left = tuple(pair for pair in wishes if pair[0] != event[2])
    return None if left == wishes else with_part(world, wishes_path(at), left)


def behind_pass(world, at, _):
    waiting = part_of(world, waiting_path(at))
    if not waiting:
        return None
    return given_on(with_part(world, waiting_path(at), waiting[1:]), at, "going", waiting[0])


def behind_arrive(world, at, event):
    return arrived(world, at, event[2])


def behind_harm(world, at, event):
    """The world behind a loss, a doubling or a turn on a line, or None if it can't happen."""
    word, _, side, index = event
    frames = part_of(world, frames_path(at, side))
    picked, rest = frames[index:index + 1], frames[index + 1:]
    if not picked or (word == "turn" and not rest) or (word == "double" and picked[0][:2] == ("word", "light")):
        return None
    if word == "lose":
        picked = ()
    elif word == "double":
        picked = picked * 2
    else:
        picked, rest = rest[:1] + picked, rest[1:]
    return with_part(world, frames_path(at, side), frames[:index] + picked + rest)


def behind_again(world, at, event):
    side, number = event[2:]
    entries = [entry for entry in part_of(world, giving_path(at, side)) if entry[0] == number]
    if not entries:
        return None
    way, state, topic, body = entries[0][1:]
    frame = ("let", number) if state == "let" else ("word", way, number, True, topic, body)
    return with_more(world, frames_path(at, side), frame)


def log_path(path):
    """The path to the log of the hand to whose memory a path leads."""
    return path[:2] + (path[2] + 1,)


def behind_write(world, paths):
    """The world in which the logs of the hands with these memories have become the memories."""
    for path in paths:
        world = with_part(world, log_path(path), part_of(world, path))
    return world


def behind_stop(world, paths):
    """The world in which these memories have become the logs, and the lines of their hands have lost all frames."""
    for path in paths:
        world = with_part(world, path, part_of(world, log_path(path)))
        world = with_part(world, (3, path[1]), (world[1][path[1]][0], (), ()))
    return world


ACTIONS = {
    "give": behind_give,
    "wish": behind_wish,
    "unwish": behind_unwish,
    "pass": behind_pass,
    "arrive": behind_arrive,
    "lose": behind_harm,
    "double": behind_harm,
    "turn": behind_harm,
    "again": behind_again,
}


def behind_of_hands(world, event):
    """The world behind a writing or a stop, or None if there is no such client."""
    word, name = event
    names = names_of(world)
    if name == "":
        paths = [memory_path(at, "going") for at in range(len(names))]
    else:
        paths = [memory_path(at, "coming") for at in range(len(names)) if names[at] == name]
    if not paths:
        return None
    return behind_write(world, paths) if word == "write" else behind_stop(world, paths)


def with_all_logs(world):
    """The world in which the log of each hand has become its memory."""
    clients = tuple((name, memory, memory, heard) for name, memory, _, heard in world[1])
    sessions = tuple((name, wishes, memory, memory) for name, wishes, memory, _ in world[2])
    return (world[0], clients, sessions) + world[3:]


def behind(world, event):
    """The world behind an event, or None if it can't happen, both being known to be such."""
    names = names_of(world)
    if event[0] in ("write", "stop"):
        after = behind_of_hands(world, event)
    elif event[1] not in names:
        return None
    else:
        action = ACTIONS[event[0]]
        after = action(world, names.index(event[1]), event)
    if after is None or not has_room(after):
        return None
    return with_all_logs(after) if world[0][1] else after


def can_happen(world, event):
    """Tell whether an event can happen in a world."""
    check_world(world)
    check_event(event)
    return behind(world, event) is not None


def after_all(world, events):
    for event in events:
        after = behind(world, event)
        if after is None:
            raise CannotHappen("an event can't happen")
        world = after
    return world


def happened(world, event):
    """The world behind an event."""
    check_world(world)
    check_event(event)
    return after_all(world, (event,))


def check_events(events, most):
    if not isinstance(events, tuple) or len(events) > most or not all(is_event(event) for event in events):
        raise InvalidEvents("not a tuple of events")


def happened_all(world, events):
    """The world behind some events, one after another."""
    check_world(world)
    check_events(events, MOST_EVENTS)
    return after_all(world, events)


def events_of_side(world, at, name, side):
    """All events of a side of a line that may be able to happen."""
    events = [("arrive", name, side)]
    for index in range(len(part_of(world, frames_path(at, side)))):
        events += [(word, name, side, index) for word in ("lose", "double", "turn")]
    return events + [("again", name, side, entry[0]) for entry in part_of(world, giving_path(at, side))]


def events_with(world, words):
    """All events with one of some words, none of them a word of plans, that may be able to happen."""
    events = [("write", ""), ("stop", "")]
    for at, name in enumerate(names_of(world)):
        events += [("pass", name), ("write", name), ("stop", name)]
        for side in SIDES:
            events += events_of_side(world, at, name, side)
    return [event for event in events if event[0] in words]


def ways_on(world, words):
    """The ascending list of the pairs of each of these events that can happen, and of the world behind it."""
    pairs = [(event, behind(world, event)) for event in sorted(events_with(world, words))]
    return [pair for pair in pairs if pair[1] is not None]


def events_that_can(world):
    """The ascending list of all events that can happen, but for "give", "wish" and "unwish"."""
    check_world(world)
    return [event for event, _ in ways_on(world, OTHER_WORDS)]
