"""A second telling of meshes, by objects that change, and of paths, by telling them one by one."""

import copy
from itertools import permutations

from tests.model import meets

NAMES = ("u", "v", "w", "x", "y")
TOPICS = ("a", "a/b", "b")
WISHES = ("#", "#", "a/#", "a", "b", "+")
BOOKS = ("none", "last", "all", 1, 2, 8)
MARKS = ("kept", "anew", "skip")


class Impossible(Exception):
    """A mesh event can't happen."""


class Bridge:
    def __init__(self, one, other, wish, is_open=True, mark=0):
        self.one, self.other, self.wish, self.is_open, self.mark = one, other, wish, is_open, mark

    def told(self):
        return (self.one, self.other, self.wish, self.is_open, self.mark)


class Mesh:
    def __init__(self, mesh):
        (self.book, self.mark), brokers, bridges = mesh
        self.logs = {name: list(log) for name, log in brokers}
        self.bridges = {bridge[:2]: Bridge(*bridge) for bridge in bridges}

    def mesh(self):
        logs = tuple((name, tuple(self.logs[name])) for name in sorted(self.logs))
        return ((self.book, self.mark), logs, tuple(self.bridges[pair].told() for pair in sorted(self.bridges)))

    def behind(self, event):
        mesh = copy.deepcopy(self)
        getattr(mesh, "do_" + event[0])(*event[1:])
        if any(len(log) > 60 for log in mesh.logs.values()):
            raise Impossible
        return mesh

    def bridge(self, one, other):
        if (one, other) not in self.bridges:
            raise Impossible
        return self.bridges[one, other]

    def do_tell(self, name, topic):
        if name not in self.logs:
            raise Impossible
        number = sum(1 for record in self.logs[name] if record[3] == "")
        if number > 99:
            raise Impossible
        self.logs[name].append((name, number, topic, ""))

    def is_barred(self, log, origin, number):
        if self.book == "none":
            return False
        if self.book == "last":
            return any(record[0] == origin and record[1] >= number for record in log)
        many = len(log) if self.book == "all" else self.book
        return any(record[:2] == (origin, number) for record in list(reversed(log))[:many])

    def do_cross(self, one, other):
        bridge = self.bridge(one, other)
        if not bridge.is_open or bridge.mark >= len(self.logs[one]):
            raise Impossible
        origin, number, topic, giver = self.logs[one][bridge.mark]
        bridge.mark += 1
        if meets(topic, bridge.wish) and giver != other and not self.is_barred(self.logs[other], origin, number):
            self.logs[other].append((origin, number, topic, one))

    def do_part(self, one, other):
        bridge = self.bridge(one, other)
        if not bridge.is_open:
            raise Impossible
        bridge.is_open = False

    def do_meet(self, one, other):
        bridge = self.bridge(one, other)
        if bridge.is_open:
            raise Impossible
        bridge.is_open = True
        bridge.mark = {"kept": bridge.mark, "anew": 0, "skip": len(self.logs[one])}[self.mark]

    def is_settled(self):
        return all(bridge.is_open and bridge.mark == len(self.logs[bridge.one]) for bridge in self.bridges.values())

    def has_twice(self):
        return any(len({record[:2] for record in log}) < len(log) for log in self.logs.values())

    def faults(self):
        found = set()
        for log in self.logs.values():
            for origin, number, topic, giver in log:
                if giver == "":
                    for name in self.logs:
                        many = sum(1 for record in self.logs[name] if record[:2] == (origin, number))
                        if many == 0 and any(path[-1] == name for path in short_paths(self.mesh(), topic, origin)):
                            found.add((name, origin, number, "less"))
                        if many > 1:
                            found.add((name, origin, number, "more"))
        return sorted(found)


def leads(mesh, topic, one, other):
    return any(bridge[:2] == (one, other) and meets(topic, bridge[2]) for bridge in mesh[2])


def short_paths(mesh, topic, name):
    """All paths from a broker in which none stands twice."""
    others = [broker for broker, _ in mesh[1] if broker != name]
    rows = [(name,) + row for many in range(len(others) + 1) for row in permutations(others, many)]
    return [row for row in rows if all(leads(mesh, topic, one, two) for one, two in zip(row, row[1:]))]


def all_paths(mesh, topic, name, most, many=400):
    """All paths from a broker of up to so many brokers, one by one; None if there are too many of one length."""
    names = [broker for broker, _ in mesh[1]]
    ways = {one: [two for two in names if leads(mesh, topic, one, two)] for one in names}
    found, layer = [], [(name,)]
    while layer and len(layer[0]) <= most:
        found += layer
        layer = [path + (two,) for path in layer for two in ways[path[-1]] if path[-2:-1] != (two,)]
        if len(layer) > many:
            return None
    return found


def path_counts(mesh, topic, name, most):
    """For each number of brokers up to most, a dict of how many paths of so many lead from one broker to each one."""
    names = [broker for broker, _ in mesh[1]]
    ways = {one: [two for two in names if leads(mesh, topic, one, two)] for one in names}
    layer, rows = {(None, name): 1}, []
    for _ in range(most):
        rows.append({one: sum(many for place, many in layer.items() if place[1] == one) for one in names})
        behind = {}
        for (ahead, here), many in layer.items():
            for two in ways[here]:
                if two != ahead:
                    behind[here, two] = behind.get((here, two), 0) + many
        layer = behind
    return rows


def all_rings(mesh, topic):
    names = [broker for broker, _ in mesh[1]]
    rows = [row for many in range(3, 6) for row in permutations(names, many) if row[0] == min(row)]
    return sorted(row for row in rows if all(leads(mesh, topic, one, two) for one, two in zip(row, row[1:] + row[:1])))


def some_mesh(dice, manner=None, wishes=WISHES, most=5):
    """A fresh mesh."""
    names = sorted(dice.sample(NAMES, dice.randrange(2, most + 1)))
    pairs = list(permutations(names, 2))
    pairs = sorted(dice.sample(pairs, dice.randrange(min(12, len(pairs)) + 1)))
    manner = manner or (dice.choice(BOOKS), dice.choice(MARKS))
    return (
        manner, tuple((name, ()) for name in names),
        tuple((one, other, dice.choice(wishes), True, 0) for one, other in pairs),
    )


def all_events(mesh):
    """All mesh events with the names of a mesh, and with one that it has not."""
    names = [name for name, _ in mesh[1]] + ["zz"]
    pairs = [(one, other) for one in names for other in names]
    events = [("tell", name, topic) for name in names for topic in TOPICS]
    return events + [(word,) + pair for word in ("cross", "part", "meet") for pair in pairs]


def some_events(dice, mesh, many, words=("tell", "cross", "cross", "cross", "part", "meet")):
    """Mesh events that can happen one after another, and the mesh behind them as objects."""
    model, events = Mesh(mesh), []
    for _ in range(many):
        word = dice.choice(words)
        choices = [event for event in all_events(mesh) if event[0] == word and "zz" not in event]
        if choices:
            event = dice.choice(choices)
            try:
                model = model.behind(event)
            except Impossible:
                continue
            events.append(event)
    return tuple(events), model


def crossed_to_the_end(model, dice=None):
    """The mesh behind crossings until none can happen, each the first one or any, and how many there were."""
    many = 0
    while many < 1000:
        pairs = [pair for pair in sorted(model.bridges) if can(model, ("cross",) + pair)]
        if not pairs:
            return model, many
        model = model.behind(("cross",) + (dice.choice(pairs) if dice else pairs[0]))
        many += 1
    return None


def can(model, event):
    try:
        model.behind(event)
    except Impossible:
        return False
    return True


def doubling_runs(model, most):
    """All rows of the fewest crossings, of at most so many, behind which a word stands twice somewhere."""
    layer = [((), model)]
    for many in range(most + 1):
        found = [run for run, behind in layer if behind.has_twice()]
        if found or many == most:
            return found
        layer = [
            (run + (("cross",) + pair,), behind.behind(("cross",) + pair))
            for run, behind in layer for pair in behind.bridges if can(behind, ("cross",) + pair)
        ]
    return []
