"""Closed lots: states that no step leads out of, and none of which has a sign."""

from heardonce.allruns import check_sign, check_state, is_state
from heardonce.checks import is_rising, is_row
from heardonce.runlots import Lot, Worlds

MOST_IN_CLOSED = 300


def closed_lot(state, sign):
    """A closed lot of a state for a sign, or None if there is a bad run."""
    check_state(state)
    check_sign(sign)
    lot = Lot(state, MOST_IN_CLOSED)
    return None if any(lot.signs(sign)) else tuple(sorted(lot.states()))


def is_closed(lot, sign):
    """Tell whether all steps of the states of a lot lead to states of it, and none of them has a sign."""
    worlds = Worlds([harm for _, harm, _ in lot])
    places, has_steps = [worlds.place_of(one) for one in lot], []
    among = {place: True for place in places}
    for place in places:
        steps = worlds.steps_from(place)
        if not all([after in among for _, after in steps]):
            return False
        has_steps.append(len(steps) > 0)
    return not any(worlds.signs_of(places, has_steps, sign))


def is_closed_lot(state, sign, value):
    """Tell whether any value is a closed lot of a state for a sign."""
    check_state(state)
    check_sign(sign)
    if not is_row(value, 1, MOST_IN_CLOSED, is_state) or not is_rising(value) or state not in value:
        return False
    return is_closed(value, sign)
