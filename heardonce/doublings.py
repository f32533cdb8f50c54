"""Shortest rows of crossings behind which some broker has some word twice.

A place is here a pair (marks, added): the marks of the bridges that are open, and for each broker the records that it
has more than at first.
"""

from heardonce.meshes import MOST_RECORDS
from heardonce.names import is_met

# Books by which no broker ever takes in a word that it has.
STRICT_BOOKS = ("last", "all")


class Crossing:
    """A mesh from which words are passed on: what stays the same in all rows of crossings."""

    def __init__(self, mesh):
        names = [name for name, _ in mesh[1]]
        self.book = mesh[0][0]
        self.names = names
        self.logs = [log for _, log in mesh[1]]
        self.bridges = [
            (names.index(one), names.index(other), wish) for one, other, wish, is_open, _ in mesh[2] if is_open
        ]
        self.marks = tuple([bridge[4] for bridge in mesh[2] if bridge[3]])
        self.met = {}

    def is_crossed(self, record, at):
        """Tell whether a record is given to the broker behind a bridge."""
        _, other, wish = self.bridges[at]
        if record[3] == self.names[other]:
            return False
        key = (record[2], wish)
        if key not in self.met:
            self.met[key] = is_met(record[2], wish)
        return self.met[key]

    def first_place(self):
        return self.marks, ((),) * len(self.logs)

    def next_record(self, place, at):
        """The record that crosses a bridge next, or None if there is none."""
        one = self.bridges[at][0]
        index, log = place[0][at], self.logs[one]
        if index < len(log):
            return log[index]
        added = place[1][one]
        return added[index - len(log)] if index - len(log) < len(added) else None

    def is_barred(self, log, word):
        if self.book == "none":
            return False
        return word in [record[:2] for record in log[-self.book:]]

    def crossed(self, place, at):
        """The place behind a crossing, and whether a broker has a word twice by it; None if it can't happen."""
        marks, added = place
        record = self.next_record(place, at)
        if record is None:
            return None
        marks = marks[:at] + (marks[at] + 1,) + marks[at + 1:]
        if not self.is_crossed(record, at):
            return (marks, added), False
        one, other, _ = self.bridges[at]
        log, word = self.logs[other] + added[other], record[:2]
        if self.is_barred(log, word):
            return (marks, added), False
        if len(log) == MOST_RECORDS:
            return None
        taken = added[other] + (record[:3] + (self.names[one],),)
        is_twice = word in [had[:2] for had in log]
        return (marks, added[:other] + (taken,) + added[other + 1:]), is_twice

    def first_costs(self, word, topic):
        """For each bridge the least number of crossings by which a record that is there brings a word over it."""
        costs = []
        for at, (one, _, _) in enumerate(self.bridges):
            indices = [
                index for index in range(self.marks[at], len(self.logs[one]))
                if self.logs[one][index][:3] == word + (topic,) and self.is_crossed(self.logs[one][index], at)
            ]
            costs.append(indices[0] - self.marks[at] + 1 if indices else None)
        return costs

    def least_costs(self, word, topic, most):
        """For each bridge a number of crossings below which no word comes over it, None if that is above the most."""
        costs, is_new = self.first_costs(word, topic), True
        while is_new:
            is_new = False
            for at, (one, other, _) in enumerate(self.bridges):
                rest = len(self.logs[one]) - self.marks[at] + 1
                before = [
                    cost + rest for cost, (giver, here, _) in zip(list(costs), self.bridges)
                    if cost is not None and here == one and giver != other
                ]
                is_way = before and min(before) <= most and self.is_crossed(word + (topic, ""), at)
                if is_way and (costs[at] is None or min(before) < costs[at]):
                    costs[at], is_new = min(before), True
        return costs

    def least_behind(self, log, word):
        """How many crossings it takes at least until a word that comes to a log again is not barred there, by its book.

        If the log has not got the word, its first coming there is counted, too.
        """
        had = [at for at, record in enumerate(log) if record[:2] == word]
        barred = 0 if self.book == "none" else self.book
        return max(0, had[-1] + barred + 1 - len(log)) if had else 1 + barred

    def may_double(self, most):
        """Tell whether some broker may have some word twice behind so many crossings; if not, none has."""
        told = {record[:3]: True for log in self.logs for record in log}
        words = {}
        for origin, number, topic in told:
            costs = self.least_costs((origin, number), topic, most)
            for (_, other, _), cost in zip(self.bridges, costs):
                if cost is not None and cost <= most:
                    words.setdefault((other, origin, number), []).append(cost)
        for other, origin, number in words:
            costs, log = sorted(words[other, origin, number]), self.logs[other]
            has_one = (origin, number) in [record[:2] for record in log]
            # Without the word, it must come over two bridges.
            if (has_one or len(costs) > 1) and self.least_behind(log, (origin, number)) + 1 <= most:
                if has_one or max(costs[0] + 1, costs[1]) <= most:
                    return True
        return False


def is_doubled(mesh):
    """Tell whether some broker of a mesh has some word twice."""
    words = [[record[:2] for record in log] for _, log in mesh[1]]
    return any([len(set(row)) < len(row) for row in words])


def shortest_run(crossing, most):
    """A shortest tuple of indices of bridges, of at most so many, behind which a word is there twice, or None."""
    layer = {crossing.first_place(): ()}
    for _ in range(most):
        found = {}
        for place, run in layer.items():
            for at in range(len(crossing.bridges)):
                behind = crossing.crossed(place, at)
                if behind is not None and behind[1]:
                    return run + (at,)
                if behind is not None and len(run) + 1 < most:
                    found[behind[0]] = run + (at,)
        layer = found
    return None


def doubling_events(mesh, most):
    """A shortest tuple of crossings, of at most so many, behind which some broker has some word twice, or None."""
    if is_doubled(mesh):
        return ()
    if mesh[0][0] in STRICT_BOOKS:
        return None
    crossing = Crossing(mesh)
    if not crossing.may_double(most):
        return None
    run = shortest_run(crossing, most)
    pairs = [(one, other) for one, other, _ in crossing.bridges]
    if run is None:
        return None
    return tuple([("cross", crossing.names[pairs[at][0]], crossing.names[pairs[at][1]]) for at in run])
