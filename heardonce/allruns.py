"""States: worlds with harm that may yet come and with a plan; their steps and their signs."""

from heardonce.checks import is_integer, is_row
from heardonce.errors import CannotHappen, InvalidSign, InvalidState
from heardonce.events import PLAN_WORDS, behind, check_events, events_with, is_event
from heardonce.worlds import all_faults, is_still, is_world

# In the order in which harm tells how many of them may come.
HARM_WORDS = ("lose", "double", "turn", "again", "write", "stop")
FREE_WORDS = ("arrive", "pass")
MOST_HARM = 3
MOST_PLANNED = 3
MOST_RUN_EVENTS = 60
SIGNS = ("more", "less", "stuck")


def is_harm_told(value):
    """Tell whether any value is harm."""
    return (
        isinstance(value, tuple) and len(value) == len(HARM_WORDS)
        and all([is_integer(many, 0, MOST_HARM) for many in value])
    )


def is_planned(value):
    return is_event(value) and value[0] in PLAN_WORDS


def is_state(value):
    """Tell whether any value is a state."""
    return (
        isinstance(value, tuple) and len(value) == 3 and is_world(value[0]) and is_harm_told(value[1])
        and is_row(value[2], 0, MOST_PLANNED, is_planned)
    )


def check_state(state):
    if not is_state(state):
        raise InvalidState("not a state")


def check_sign(sign):
    if sign not in SIGNS:
        raise InvalidSign("not a sign")


def harm_behind(harm, at):
    """The harm that is left behind an event of the sort with an index."""
    return harm[:at] + (harm[at] - 1,) + harm[at + 1:]


def after_step(state, event):
    """The state behind an event, or None if the event is no step."""
    world, harm, plan = state
    if event[0] in HARM_WORDS:
        at = HARM_WORDS.index(event[0])
        if harm[at] == 0:
            return None
        harm = harm_behind(harm, at)
    elif event[0] in PLAN_WORDS:
        if plan[:1] != (event,):
            return None
        plan = plan[1:]
    world = behind(world, event)
    return None if world is None else (world, harm, plan)


def steps_from(state):
    """The ascending list of the pairs of each step of a state, and of the state behind it."""
    world, harm, plan = state
    harms = {word: harm_behind(harm, at) for at, word in enumerate(HARM_WORDS) if harm[at] > 0}
    events = events_with(world, FREE_WORDS + tuple(harms)) + list(plan[:1])
    ways = [(event, behind(world, event)) for event in sorted(events)]
    return [
        (event, (after, harms.get(event[0], harm), plan[1:] if event[0] in PLAN_WORDS else plan))
        for event, after in ways if after is not None
    ]


def state_steps(state):
    """The ascending list of the steps of a state."""
    check_state(state)
    return [event for event, _ in steps_from(state)]


def state_behind(state, events):
    """The state behind some events, one after another."""
    check_state(state)
    check_events(events, MOST_RUN_EVENTS)
    for event in events:
        after = after_step(state, event)
        if after is None:
            raise CannotHappen("an event is no step")
        state = after
    return state


def has_fault(world, sign):
    """Tell whether a world has a fault whose last item is a sign."""
    return any([fault[-1] == sign for fault in all_faults(world)])


def shows(state, sign):
    """Tell whether a state has a sign, both being known to be such."""
    world = state[0]
    if sign == "stuck":
        return not is_still(world) and not steps_from(state)
    if sign == "less" and not is_still(world):
        return False
    return has_fault(world, sign)


def has_sign(state, sign):
    """Tell whether a state has a sign."""
    check_state(state)
    check_sign(sign)
    return shows(state, sign)
