"""The lots of states: all states behind their runs."""

from heardonce.allruns import check_state, steps_from
from heardonce.errors import TooMany

MOST_STATES = 1000


def shortest_runs(state, most):
    """All states of the lot of a state, as a dict that gives for each the first one of the shortest runs to it.

    They stand in the order of these runs: the shorter ones ahead, and those of the same length in ascending order.
    """
    runs, layer = {state: ()}, [state]
    while layer:
        found = []
        for ahead in layer:
            for event, after in steps_from(ahead):
                if after not in runs:
                    runs[after] = runs[ahead] + (event,)
                    found.append(after)
            # Told as soon as it is known, as a lot may be far greater.
            if len(runs) > most:
                raise TooMany(most)
        layer = found
    return runs


def count_states(state):
    """How many states the lot of a state has."""
    check_state(state)
    return len(shortest_runs(state, MOST_STATES))


def layers_of(state):
    """How many states of the lot are first reached by 0, 1, 2 and so on events."""
    check_state(state)
    runs = shortest_runs(state, MOST_STATES)
    lengths = [len(run) for run in runs.values()]
    return tuple(lengths.count(length) for length in range(max(lengths) + 1))


def ends_of(state):
    """The ascending list of all states of the lot that have no steps."""
    check_state(state)
    return sorted([end for end in shortest_runs(state, MOST_STATES) if not steps_from(end)])
