"""Closed lots: states that no step leads out of, and none of which has a sign."""

from heardonce.allruns import check_sign, check_state, is_state, shows, steps_from
from heardonce.checks import is_rising, is_row
from heardonce.runlots import shortest_runs

MOST_IN_CLOSED = 300


def closed_lot(state, sign):
    """A closed lot of a state for a sign, or None if there is a bad run."""
    check_state(state)
    check_sign(sign)
    lot = sorted(list(shortest_runs(state, MOST_IN_CLOSED)))
    if any([shows(one, sign) for one in lot]):
        return None
    return tuple(lot)


def is_closed(lot):
    """Tell whether all steps of the states of a lot lead to states of it."""
    among = {one: True for one in lot}
    for one in lot:
        if not all([after in among for _, after in steps_from(one)]):
            return False
    return True


def is_closed_lot(state, sign, value):
    """Tell whether any value is a closed lot of a state for a sign."""
    check_state(state)
    check_sign(sign)
    if not is_row(value, 1, MOST_IN_CLOSED, is_state) or not is_rising(value) or state not in value:
        return False
    return not any([shows(one, sign) for one in value]) and is_closed(value)
