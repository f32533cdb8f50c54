"""Facts of worlds, and ways from the world of a tale that explain them."""

from heardonce.checks import is_integer, is_row
from heardonce.errors import InvalidFacts, InvalidNumber, TooMany
from heardonce.events import MOST_EVENTS, OTHER_WORDS, behind, check_events, events_with
from heardonce.lifetales import is_harm_event, world_of
from heardonce.names import is_body, is_name, is_topic
from heardonce.worlds import all_faults, check_world, is_still

MOST_FACTS = 12
MOST_MANY = 200
MOST_ON_WAY = 6
MOST_WORLDS = 1000


def is_many(value):
    return is_integer(value, 0, MOST_MANY)


def is_fact(value):
    """Tell whether any value is a fact."""
    if not isinstance(value, tuple) or not value:
        return False
    if value[0] == "rest":
        return len(value) == 1
    if value[0] in ("frames", "faults"):
        return len(value) == 2 and is_many(value[1])
    return (
        value[0] in ("heard", "owned") and len(value) == 5 and is_name(value[1]) and is_topic(value[2])
        and is_body(value[3]) and is_many(value[4])
    )


def are_facts(value):
    """Tell whether any value is facts."""
    return is_row(value, 0, MOST_FACTS, is_fact)


def check_facts(facts):
    if not are_facts(facts):
        raise InvalidFacts("not facts")


def holds(world, fact):
    """Tell whether a fact holds in a world, both being known to be such."""
    if fact[0] == "rest":
        return is_still(world)
    if fact[0] == "frames":
        return sum([len(coming) + len(going) for _, coming, going in world[3]]) == fact[1]
    if fact[0] == "faults":
        return len(all_faults(world)) == fact[1]
    _, name, topic, body, many = fact
    heard = [client[3] for client in world[1] if client[0] == name]
    if not heard:
        return False
    if fact[0] == "heard":
        return heard[0].count((topic, body)) == many
    return len([word for word in world[6] if (word[0], word[2], word[3]) == (name, topic, body)]) == many


def all_hold(world, facts):
    return all([holds(world, fact) for fact in facts])


def facts_hold(world, facts):
    """Tell whether all facts hold in a world."""
    check_world(world)
    check_facts(facts)
    return all_hold(world, facts)


class Near:
    """All worlds behind ways of at most so many events from one, each told by its index."""

    def __init__(self, world, most):
        self.most = most
        self.worlds = [world]
        # For each world from which ways go on, the dict of the indices of the worlds next to it, and of the pairs of
        # the least harm and the event by which it is reached.
        self.nexts = []
        self.find_all()

    def next_to(self, here, indices):
        """What `nexts` holds for the world with an index; indices are told for the worlds that are new."""
        world, found = self.worlds[here], {}
        for event in events_with(world, OTHER_WORDS):
            after = behind(world, event)
            if after is not None:
                at = indices.setdefault(after, len(indices))
                harm = 1 if is_harm_event(event) else 0
                if at != here and (at not in found or harm < found[at][0]):
                    found[at] = (harm, event)
        return found

    def find_all(self):
        indices = {self.worlds[0]: 0}
        for _ in range(self.most):
            first, end = len(self.nexts), len(self.worlds)
            for at in range(first, end):
                self.nexts.append(self.next_to(at, indices))
                # Told as soon as it is known, as there may be far more.
                if len(indices) > MOST_WORLDS:
                    raise TooMany(MOST_WORLDS)
            self.worlds = list(indices)

    def least_ways(self):
        """The dict of all indices of worlds, and of the pairs of the least harm of a way there, and of such a way."""
        best = {0: (0, ())}
        changed = best
        for _ in range(self.most):
            found = {}
            for at, (done, way) in changed.items():
                for after, (harm, event) in self.nexts[at].items():
                    known = found.get(after, best.get(after, None))
                    if known is None or done + harm < known[0]:
                        found[after] = (done + harm, way + (event,))
            best = {**best, **found}
            changed = found
        return best


def check_most(most):
    if not is_integer(most, 0, MOST_ON_WAY):
        raise InvalidNumber("not a number of events of a way")


def worlds_near(tale, most):
    """How many worlds stand behind ways of at most so many events from the world of a tale."""
    world = world_of(tale)
    check_most(most)
    return len(Near(world, most).worlds)


def best_explaining(tale, facts, most):
    """The pair of the least harm of a way that explains facts, and of such a way, or None if there is none."""
    world = world_of(tale)
    check_facts(facts)
    check_most(most)
    near = Near(world, most)
    best = near.least_ways()
    for at in sorted(list(best), key=lambda index: best[index][0]):
        if all_hold(near.worlds[at], facts):
            return best[at]
    return None


def least_told(tale, facts, most):
    """The least harm of a way of at most so many events that explains facts, or None if there is none."""
    best = best_explaining(tale, facts, most)
    return None if best is None else best[0]


def explaining(tale, facts, most):
    """A way of at most so many events that explains facts with the least harm, or None if there is none."""
    best = best_explaining(tale, facts, most)
    return None if best is None else best[1]


def explains(tale, facts, events):
    """Tell whether events are a way from the world of a tale that explains facts."""
    world = world_of(tale)
    check_facts(facts)
    check_events(events, MOST_EVENTS)
    if len(events) > MOST_ON_WAY or not all([event[0] in OTHER_WORDS for event in events]):
        return False
    for event in events:
        world = behind(world, event)
        if world is None:
            return False
    return all_hold(world, facts)
