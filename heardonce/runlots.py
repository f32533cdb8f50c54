"""The lots of states: all states behind their runs."""

from heardonce.allruns import FREE_WORDS, HARM_WORDS, check_state, harm_behind, has_fault
from heardonce.errors import TooMany
from heardonce.events import PLAN_WORDS, behind, events_with
from heardonce.worlds import is_still

MOST_STATES = 1000
# The sorts of events for which no harm is needed, told by what is no index of harm.
FREE = 6
PLANNED = 7


def sort_of(event):
    """The index of what harm an event needs, or that it is free, or planned."""
    if event[0] in FREE_WORDS:
        return FREE
    return PLANNED if event[0] in PLAN_WORDS else HARM_WORDS.index(event[0])


class Worlds:
    """Worlds told by their indices, so that all that is told of each is found just once.

    A place is a state with the index of its world instead of this.
    """

    def __init__(self, harms):
        words = [word for at, word in enumerate(HARM_WORDS) if any([harm[at] > 0 for harm in harms])]
        self.words = FREE_WORDS + tuple(words)
        self.worlds = []
        self.indices = {}
        self.ways = {}

    def index_of(self, world):
        at = self.indices.setdefault(world, len(self.worlds))
        if at == len(self.worlds):
            self.worlds.append(world)
        return at

    def place_of(self, state):
        return self.index_of(state[0]), state[1], state[2]

    def state_at(self, place):
        return self.worlds[place[0]], place[1], place[2]

    def ways_from(self, at, plan):
        """The ascending list of what events can happen, harm or not: the event, the world behind it, and its sort.

        The sort is the index of what harm is needed, or tells that none is, or that the event is planned.
        """
        if (at, plan) not in self.ways:
            world = self.worlds[at]
            events = sorted(events_with(world, self.words) + list(plan[:1]))
            pairs = [(event, behind(world, event)) for event in events]
            self.ways[at, plan] = [
                (event, self.index_of(after), sort_of(event)) for event, after in pairs if after is not None
            ]
        return self.ways[at, plan]

    def steps_from(self, place):
        """The ascending list of the pairs of each step of a state, and of the place behind it."""
        at, harm, plan = place
        steps = []
        for event, after, sort in self.ways_from(at, plan):
            if sort == FREE:
                steps.append((event, (after, harm, plan)))
            elif sort == PLANNED:
                steps.append((event, (after, harm, plan[1:])))
            elif harm[sort] > 0:
                steps.append((event, (after, harm_behind(harm, sort), plan)))
        return steps

    def signs_of(self, places, steps, sign):
        """The list of whether the state of each place has a sign; `steps` tell whether it has steps."""
        still = [is_still(world) for world in self.worlds]
        if sign == "stuck":
            return [not is_step and not still[place[0]] for place, is_step in zip(places, steps)]
        # Faults come of these parts alone, which are the same in most worlds of a lot.
        told = [(world[4:], tuple([(client[0], client[3]) for client in world[1]])) for world in self.worlds]
        found = {}
        for world, parts in zip(self.worlds, told):
            if parts not in found:
                found[parts] = has_fault(world, sign)
        shown = [found[parts] and (sign == "more" or is_end) for parts, is_end in zip(told, still)]
        return [shown[place[0]] for place in places]


class Lot:
    """All states of the lot of a state, in the order of the first ones of the shortest runs to them.

    The shorter runs stand ahead, and those of the same length in ascending order.
    """

    def __init__(self, state, most):
        self.worlds = Worlds((state[1],))
        self.places = [self.worlds.place_of(state)]
        # For each state but the first one the last step to it: the index of the state ahead, and the event.
        self.last_steps = [(0, ())]
        self.sizes = []
        self.has_steps = []
        self.find_all(most)

    def find_all(self, most):
        indices, first = {self.places[0]: 0}, 0
        while first < len(self.places):
            end = len(self.places)
            self.sizes.append(end - first)
            for at in range(first, end):
                steps = self.worlds.steps_from(self.places[at])
                self.has_steps.append(len(steps) > 0)
                for event, after in steps:
                    if indices.setdefault(after, len(self.places)) == len(self.places):
                        self.places.append(after)
                        self.last_steps.append((at, event))
                # Told as soon as it is known, as a lot may be far greater.
                if len(self.places) > most:
                    raise TooMany(most)
            first = end

    def signs(self, sign):
        """The list of whether each state has a sign."""
        return self.worlds.signs_of(self.places, self.has_steps, sign)

    def states(self):
        return [self.worlds.state_at(place) for place in self.places]

    def run_to(self, at):
        """The first one of the shortest runs to the state with an index."""
        run = ()
        while at > 0:
            at, event = self.last_steps[at]
            run = (event,) + run
        return run


def count_states(state):
    """How many states the lot of a state has."""
    check_state(state)
    return len(Lot(state, MOST_STATES).places)


def layers_of(state):
    """How many states of the lot are first reached by 0, 1, 2 and so on events."""
    check_state(state)
    return tuple(Lot(state, MOST_STATES).sizes)


def ends_of(state):
    """The ascending list of all states of the lot that have no steps."""
    check_state(state)
    lot = Lot(state, MOST_STATES)
    return sorted([end for end, is_step in zip(lot.states(), lot.has_steps) if not is_step])
