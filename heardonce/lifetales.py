"""Tales: rows of events that can happen in a fresh world, and what may be told on of them."""

from heardonce.checks import is_integer
from heardonce.errors import CannotHappen, InvalidNumber, InvalidTale, TooMany
from heardonce.events import MOST_EVENTS, after_all, behind, check_event, check_events, is_event
from heardonce.worlds import are_names, check_world, empty_world, is_manner, names_of

HARMS = ("lose", "double", "turn", "stop")


def world_told(value):
    """The world of any value that is a tale, or None if it is none."""
    if not isinstance(value, tuple) or len(value) != 3:
        return None
    manner, names, events = value
    if not is_manner(manner) or not are_names(names) or not isinstance(events, tuple) or len(events) > MOST_EVENTS:
        return None
    if not all([is_event(event) for event in events]):
        return None
    world = empty_world(manner, names)
    for event in events:
        world = behind(world, event)
        if world is None:
            return None
    return world


def is_tale(value):
    """Tell whether any value is a tale."""
    return world_told(value) is not None


def world_of(tale):
    """The world of a tale."""
    world = world_told(tale)
    if world is None:
        raise InvalidTale("not a tale")
    return world


def with_events(tale, events):
    """A tale with events behind its own that are known to be able to happen there."""
    manner, names, told = tale
    if len(told) + len(events) > MOST_EVENTS:
        raise TooMany(MOST_EVENTS)
    return manner, names, told + events


def world_after(world, event):
    """The world behind an event, which is checked."""
    check_event(event)
    after = behind(world, event)
    if after is None:
        raise CannotHappen("an event can't happen")
    return after


def told_on(tale, events):
    """The tale with events behind its own."""
    world = world_of(tale)
    check_events(events, MOST_EVENTS)
    after_all(world, events)
    return with_events(tale, events)


def told_back(tale, many):
    """The tale without its last events, so many."""
    world_of(tale)
    manner, names, events = tale
    if not is_integer(many, 0, len(events)):
        raise InvalidNumber("not a number of events of the tale")
    return manner, names, events[:len(events) - many]


def is_harm_event(event):
    return event[0] in HARMS


def harms_of(tale):
    """The ascending list of the indices of the events of a tale that have harm."""
    world_of(tale)
    return [at for at, event in enumerate(tale[2]) if is_harm_event(event)]


def calm_choices(world):
    """The list of all events of which the first one that can happen is the calm event."""
    names = names_of(world)
    arrivals = [("arrive", name, side) for name in names for side in ("coming", "going")]
    books = [(name, "coming", client[1][0]) for name, client in zip(names, world[1])]
    others = [(name, "going", session[2][0]) for name, session in zip(names, world[2])]
    again = [
        ("again", name, side, entry[0])
        for pair in zip(books, others) for name, side, book in pair for entry in book
    ]
    return arrivals + [("pass", name) for name in names] + again


def calm_step(world):
    """The pair of the calm event of a world, and of the world behind it, or None if there is none."""
    for event in calm_choices(world):
        after = behind(world, event)
        if after is not None:
            return event, after
    return None


def calm_event(world):
    """The calm event of a world, or None if there is none."""
    check_world(world)
    step = calm_step(world)
    return None if step is None else step[0]


def led_calm(tale, most):
    """The tale with calm events behind it, at most so many."""
    world = world_of(tale)
    if not is_integer(most, 0, MOST_EVENTS):
        raise InvalidNumber("not a number of events")
    manner, names, events = tale
    end = min(MOST_EVENTS, len(events) + most)
    step = calm_step(world)
    while step is not None and len(events) < end:
        event, world = step
        events = events + (event,)
        step = calm_step(world)
    return manner, names, events
