"""A second telling of pools, by objects that change."""

import copy
from fractions import Fraction

NAMES = ("ann", "bob", "cid", "dan", "eve", "fay", "guy")
TOPICS = ("a", "b", "a/b", "c/d/e", "zebra/x", "q")
RULES = ("fair", "key", "least", "turns")


class Impossible(Exception):
    """A pool event can't happen."""


class Reader:
    def __init__(self, name, credit, weight, place, told=0, held=()):
        self.name, self.credit, self.weight, self.place, self.told = name, credit, weight, place, told
        self.held = list(held)

    def values(self):
        return (self.name, self.credit, self.weight, self.place, self.told, tuple(self.held))

    def has_room(self):
        return len(self.held) < self.credit


def key_told(topic):
    """The key as a sum: each character by its power of 31."""
    many = len(topic)
    powers = [31 ** (many - 1 - at) for at in range(many)]
    return (7 * 31 ** many + sum(power * ord(sign) for power, sign in zip(powers, topic))) % 101


def reader_of_key(readers, key):
    """The reader for a key, by going up from it, round by 101."""
    for more in range(101):
        for reader in readers:
            if reader.place == (key + more) % 101:
                return reader
    return None


class Pool:
    def __init__(self, pool):
        self.rule, readers, waiting, self.count, self.last = pool
        self.readers = {reader[0]: Reader(*reader) for reader in readers}
        self.waiting, self.told = [list(lot) for lot in waiting], []

    def sorted(self):
        return [self.readers[name] for name in sorted(self.readers)]

    def pool(self):
        return (
            self.rule, tuple(reader.values() for reader in self.sorted()), tuple(tuple(lot) for lot in self.waiting),
            self.count, self.last,
        )

    def reader_for(self, topic):
        if self.rule == "key":
            reader = reader_of_key(self.sorted(), key_told(topic))
            return reader if reader.has_room() else None
        able = [reader for reader in self.sorted() if reader.has_room()]
        if self.rule == "turns":
            able.sort(key=lambda reader: (reader.name <= self.last, reader.name))
        if self.rule == "least":
            able.sort(key=lambda reader: len(reader.held))
        if self.rule == "fair":
            able.sort(key=lambda reader: Fraction(reader.told + 1, reader.weight))
        return able[0] if able else None

    def behind(self, event):
        pool = copy.deepcopy(self)
        pool.told = []
        getattr(pool, "do_" + event[0])(*event[1:])
        pool.tell_all()
        places = [reader.place for reader in pool.readers.values()]
        if pool.count > 1000 or len(pool.waiting) > 12 or not 1 <= len(pool.readers) <= 6:
            raise Impossible
        if len(set(places)) < len(places) or any(reader.told > 1000 for reader in pool.readers.values()):
            raise Impossible
        return pool

    def tell_all(self):
        while self.waiting and self.tell(self.waiting[0]):
            self.waiting.pop(0)

    def tell(self, lot):
        """Tell a lot whole, or not at all."""
        state = copy.deepcopy((self.readers, self.last))
        told = []
        for word in lot:
            reader = self.reader_for(word[1]) if self.readers else None
            if reader is None:
                self.readers, self.last = state
                return False
            reader.held.append(word)
            reader.told += 1
            self.last = reader.name
            told.append((word[0], reader.name))
        self.told += told
        return True

    def reader(self, name):
        if name not in self.readers:
            raise Impossible
        return self.readers[name]

    def do_come(self, topics):
        self.waiting.append([(self.count + at, topic) for at, topic in enumerate(topics)])
        self.count += len(topics)

    def do_done(self, name, number):
        held = self.reader(name).held
        left = [word for word in held if word[0] != number]
        if len(left) == len(held):
            raise Impossible
        self.reader(name).held = left

    def do_credit(self, name, credit):
        self.reader(name).credit = credit

    def do_in(self, name, credit, weight, place):
        if name in self.readers:
            raise Impossible
        self.readers[name] = Reader(name, credit, weight, place)

    def do_out(self, name):
        held = sorted(self.reader(name).held)
        del self.readers[name]
        self.waiting = [[word] for word in held] + self.waiting


def some_readers(dice, most=6):
    names = sorted(dice.sample(NAMES, dice.randrange(1, most + 1)))
    places = dice.sample(range(101), len(names))
    return tuple((name, dice.randrange(5), dice.randrange(1, 5), place) for name, place in zip(names, places))


def fresh(rule, readers):
    return (rule, tuple(reader + (0, ()) for reader in readers), (), 0, "")


def some_pool_event(dice, pool):
    word = dice.choice(("come",) * 6 + ("done",) * 6 + ("credit", "in", "out", "out"))
    names = sorted(pool.readers)
    if word == "come":
        return (word, tuple(dice.choice(TOPICS) for _ in range(dice.choice((1, 1, 2, 3, 6)))))
    if word == "in":
        return (word, dice.choice(NAMES), dice.randrange(6), dice.randrange(1, 9), dice.randrange(101))
    name = dice.choice(names) if dice.randrange(9) else dice.choice(NAMES)
    if word == "credit":
        return (word, name, dice.randrange(10))
    if word == "out":
        return (word, name)
    held = [word[0] for reader in pool.readers.values() if reader.name == name for word in reader.held]
    return (word, name, dice.choice(held) if held and dice.randrange(9) else dice.randrange(10))


def some_pool_run(dice, many, pool=None):
    """Pool events that can happen one after another from a fresh pool, and the pool behind them."""
    model = Pool(pool or fresh(dice.choice(RULES), some_readers(dice)))
    events = []
    for _ in range(many):
        event = some_pool_event(dice, model)
        try:
            model = model.behind(event)
        except Impossible:
            continue
        events.append(event)
    return tuple(events), model
