"""States: worlds with harm that may yet come and with a plan; their steps and their signs."""

from heardonce.checks import is_integer, is_row
from heardonce.errors import CannotHappen, InvalidSign, InvalidState
from heardonce.events import PLAN_WORDS, behind, check_events, events_with, is_event
from heardonce.worlds import all_faults, is_still, is_world

# In the order in which harm tells how many of them may come.
HARM_WORDS = ("lose", "double", "turn", "again", "write", "stop")
FREE_WORDS = ("arrive", "pass")
MOST_HARM = 3
MOST_PLANNED = 3
MOST_RUN_EVENTS = 60
SIGNS = ("more", "less", "stuck")


def is_harm_item(value):
    return is_integer(value, 0, MOST_HARM)


def is_planned(value):
    return is_event(value) and value[0] in PLAN_WORDS


def is_state(value):
    """Tell whether any value is a state."""
    return (
        isinstance(value, tuple) and len(value) == 3 and is_world(value[0])
        and is_row(value[1], len(HARM_WORDS), len(HARM_WORDS), is_harm_item)
        and is_row(value[2], 0, MOST_PLANNED, is_planned)
    )


def check_state(state):
    if not is_state(state):
        raise InvalidState("not a state")


def check_sign(sign):
    if sign not in SIGNS:
        raise InvalidSign("not a sign")


def after_step(state, event):
    """The state behind an event, or None if the event is no step."""
    world, harm, plan = state
    if event[0] in HARM_WORDS:
        at = HARM_WORDS.index(event[0])
        if harm[at] == 0:
            return None
        harm = harm[:at] + (harm[at] - 1,) + harm[at + 1:]
    elif event[0] in PLAN_WORDS:
        if plan[:1] != (event,):
            return None
        plan = plan[1:]
    world = behind(world, event)
    return None if world is None else (world, harm, plan)


def steps_from(state):
    """The ascending list of the pairs of each step of a state, and of the state behind it."""
    world, harm, plan = state
    words = list(FREE_WORDS) + [word for word, left in zip(HARM_WORDS, harm) if left > 0]
    events = sorted(events_with(world, words) + list(plan[:1]))
    pairs = [(event, after_step(state, event)) for event in events]
    return [pair for pair in pairs if pair[1] is not None]


def state_steps(state):
    """The ascending list of the steps of a state."""
    check_state(state)
    return [event for event, _ in steps_from(state)]


def state_behind(state, events):
    """The state behind some events, one after another."""
    check_state(state)
    check_events(events, MOST_RUN_EVENTS)
    for event in events:
        after = after_step(state, event)
        if after is None:
            raise CannotHappen("an event is no step")
        state = after
    return state


def shows(state, sign):
    """Tell whether a state has a sign, both being known to be such."""
    world = state[0]
    if sign == "stuck":
        return not is_still(world) and not steps_from(state)
    if sign == "less" and not is_still(world):
        return False
    return any([fault[-1] == sign for fault in all_faults(world)])


def has_sign(state, sign):
    """Tell whether a state has a sign."""
    check_state(state)
    check_sign(sign)
    return shows(state, sign)
