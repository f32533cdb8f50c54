"""A second telling of states, their steps and lots, by models of worlds."""

from functools import lru_cache
from itertools import product

from tests.model import Impossible, Model
from tests.runs import HARSH, some_event, some_run

HARMS = ("lose", "double", "turn", "again", "write", "stop")
FOUR_MANNERS = tuple((2, ahead, careful) for ahead in (False, True) for careful in (False, True))
SIGNS = ("more", "less", "stuck")


def named_events(model):
    """All events with names of a model but those of plans, with one index more than there is."""
    events = [("write", ""), ("stop", "")]
    for name in model.names:
        events += [("write", name), ("stop", name), ("pass", name)]
        for side in ("coming", "going"):
            events.append(("arrive", name, side))
            indices = range(min(12, len(model.frames[name, side]) + 1))
            events += [(word, name, side, at) for word in ("lose", "double", "turn") for at in indices]
            events += [("again", name, side, number) for number in range(8)]
    return events


class StateModel:
    def __init__(self, model, harm, plan):
        self.model, self.harm, self.plan = model, dict(harm), list(plan)
        self.known_layers = None

    def state(self):
        return (self.model.world(), tuple(self.harm[word] for word in HARMS), tuple(self.plan))

    def behind(self, event):
        """The model behind a step; raises Impossible."""
        harm, plan = dict(self.harm), list(self.plan)
        if event[0] in HARMS:
            harm[event[0]] -= 1
            if harm[event[0]] < 0:
                raise Impossible
        elif event[0] not in ("arrive", "pass"):
            if not plan or plan.pop(0) != event:
                raise Impossible
        return StateModel(self.model.behind(event), harm, plan)

    def ways(self):
        """The dict of all steps, and of the models behind them."""
        found = {}
        for event in named_events(self.model) + self.plan[:1]:
            try:
                found[event] = self.behind(event)
            except Impossible:
                pass
        return found

    def shows(self, sign):
        faults = {fault[-1] for fault in self.model.faults()}
        if sign == "more":
            return "more" in faults
        if sign == "less":
            return self.model.is_at_rest() and "less" in faults
        return not self.model.is_at_rest() and not self.ways()

    def layers(self):
        """All states of the lot, layer by layer, as dicts of states and their models."""
        if self.known_layers is None:
            self.known_layers = self.told_layers()
        return self.known_layers

    def told_layers(self):
        layers, known = [], {}
        layer = {self.state(): self}
        while layer:
            layers.append(layer)
            known.update(layer)
            behind = {}
            for one in layer.values():
                for after in one.ways().values():
                    behind[after.state()] = after
            layer = {state: one for state, one in behind.items() if state not in known}
        return layers

    def lot(self):
        return {state: one for layer in self.layers() for state, one in layer.items()}

    def shortest(self, sign):
        """The least one of the shortest bad runs, by how far it is from each state to one with the sign."""
        lot = self.lot()
        ways = {state: {event: after.state() for event, after in one.ways().items()} for state, one in lot.items()}
        far = {state: 0 for state, one in lot.items() if one.shows(sign)}
        is_new = True
        while is_new:
            nearer = {
                state: 1 + min(far[after] for after in behind.values() if after in far)
                for state, behind in ways.items() if state not in far and any(after in far for after in behind.values())
            }
            is_new = bool(nearer)
            far.update(nearer)
        here, run = self.state(), ()
        if here not in far:
            return None
        while far[here]:
            event = min(event for event, after in ways[here].items() if far.get(after) == far[here] - 1)
            run, here = run + (event,), ways[here][event]
        return run

    @lru_cache(maxsize=None)
    def with_harm(self, harm):
        return StateModel(self.model, dict(zip(HARMS, harm)), self.plan)

    def least_harm(self, sign):
        """The first one of all harms, told one by one, with which a state with the sign is reached."""
        harms = product(*(range(self.harm[word] + 1) for word in HARMS))
        for harm in sorted(harms, key=lambda one: (sum(one), one)):
            if any(one.shows(sign) for one in self.with_harm(harm).lot().values()):
                return harm
        return None


def fresh_state(manner, names, harm, plan):
    return StateModel(Model(manner, names), dict(zip(HARMS, harm)), plan)


def some_plan(dice, model, most):
    words = {"give": 4, "wish": 2, "unwish": 1}
    return tuple(some_event(dice, model, words) for _ in range(dice.randrange(most + 1)))


def some_state(dice, manner, many, most_harm=3, names=("ann", "bob")):
    """A state whose world stands behind a row of events with harm."""
    _, model = some_run(dice, manner, many, HARSH, names)
    harm = {word: dice.randrange(most_harm + 1) for word in HARMS}
    return StateModel(model, harm, some_plan(dice, model, 3))


# Small states: a manner, names, harm and a plan of one or two words. Each has a lot that is soon gone through.
GIVE = ("give", "ann", "paired", "a", 7)
OTHER = ("give", "ann", "paired", "a/b", 8)
SMALL = tuple(
    (manner, names, harm, plan)
    for manner in ((1, True, True), (1, True, False), (1, False, True), (2, False, False))
    for names, harm, plan in (
        (("ann",), (0, 0, 0, 0, 0, 0), (GIVE,)),
        (("ann",), (1, 0, 0, 0, 0, 0), (GIVE,)),
        (("ann",), (1, 1, 0, 0, 0, 0), (("give", "ann", "marked", "a", 7),)),
        (("ann",), (0, 1, 1, 0, 0, 0), (GIVE,)),
        (("ann",), (0, 0, 0, 1, 0, 1), (GIVE,)),
        (("ann",), (1, 0, 0, 0, 1, 1), (("give", "ann", "light", "a", 7),)),
        (("ann",), (0, 1, 1, 0, 0, 0), (GIVE, OTHER)),
        (("ann", "bob"), (0, 1, 0, 0, 0, 0), (("wish", "bob", "#", "marked"), GIVE)),
        (("ann", "bob"), (0, 0, 0, 0, 0, 2), (GIVE, ("unwish", "ann", "a"))),
    )
)


@lru_cache(maxsize=None)
def small_states():
    return tuple(fresh_state(*told) for told in SMALL)

LIGHT, MARKED = ("give", "ann", "light", "a", 8), ("give", "ann", "marked", "a", 7)
# States by how many their lots have, at the edges of what may be gone through.
AT_EDGES = {
    300: ((1, True, True), ("ann",), (0, 1, 0, 0, 2, 1), (GIVE, GIVE)),
    301: ((3, True, True), ("ann",), (1, 0, 0, 1, 0, 0), (MARKED, LIGHT, MARKED)),
    1000: ((3, True, True), ("ann",), (0, 0, 1, 0, 1, 1), (GIVE, LIGHT, GIVE)),
    1001: ((1, False, True), ("ann",), (0, 0, 1, 1, 0, 1), (GIVE, LIGHT, GIVE)),
}


def state_of(many):
    """The state at an edge whose lot has so many."""
    return fresh_state(*AT_EDGES[many]).state()
