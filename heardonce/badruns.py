"""Bad runs: those that lead to a state with a sign, and the least harm with which there is one."""

from heardonce.allruns import MOST_RUN_EVENTS, after_step, check_sign, check_state, shows
from heardonce.errors import TooMany
from heardonce.events import is_event
from heardonce.runlots import MOST_STATES, Lot

MOST_HARMS = 4


def shortest_bad(state, sign):
    """The first one, in ascending order, of the shortest bad runs for a sign, or None."""
    check_state(state)
    check_sign(sign)
    lot = Lot(state, MOST_STATES)
    signs = lot.signs(sign)
    return lot.run_to(signs.index(True)) if True in signs else None


def harm_done(harm, left):
    return tuple(many - rest for many, rest in zip(harm, left))


def least_harm(state, sign):
    """The first one of all harms, lesser sums ahead, with which a state has a bad run for a sign, or None."""
    check_state(state)
    check_sign(sign)
    lot = Lot(state, MOST_STATES)
    if sum(state[1]) > MOST_HARMS:
        raise TooMany(MOST_HARMS)
    none_left = (0,) * len(state[1])
    # A run needs just the harm that is done in it. What is left of it
    # never gives a sign: it gives more steps, and "stuck" needs there to be none.
    done = [
        harm_done(state[1], left) for world, left, plan in lot.states() if shows((world, none_left, plan), sign)
    ]
    return min(done, key=lambda harm: (sum(harm), harm), default=None)


def is_bad_run(state, sign, value):
    """Tell whether any value is a bad run for a sign, of at most 60 events."""
    check_state(state)
    check_sign(sign)
    if not isinstance(value, tuple) or len(value) > MOST_RUN_EVENTS:
        return False
    for event in value:
        state = after_step(state, event) if is_event(event) else None
        if state is None:
            return False
    return shows(state, sign)
