"""A second telling of memories, changes, tracks and diaries, by objects that change."""

WAYS = ("light", "marked", "paired")
TOPICS = ("a", "a/b", "cc/d", "abcdef/a/b/c/d", "abcdef/abcdef/abcdef/abcdef/abcdef")
LONGEST = TOPICS[-1]
EMPTY_CLIENT, EMPTY_SESSION = ((), ()), ((), (), ())
FULL_CLIENT = (tuple((number, "paired", "let", LONGEST, 999) for number in range(8)), tuple(range(8)))
FULL_SESSION = FULL_CLIENT + (tuple(("marked", LONGEST, 900 + at) for at in range(12)),)
MEMORY = (((1, "marked", "sent", "a", 7), (4, "paired", "let", "a/b", 300)), (0, 4), (("light", "b", 1),))


class Impossible(Exception):
    """A change can't be done, or octets can't be read."""


class Memory:
    def __init__(self, memory):
        self.entries = {entry[0]: entry for entry in memory[0]}
        self.held = set(memory[1])
        self.words = list(memory[2]) if len(memory) == 3 else None

    def told(self):
        entries = tuple(self.entries[number] for number in sorted(self.entries))
        parts = (entries, tuple(sorted(self.held)))
        return parts if self.words is None else parts + (tuple(self.words),)

    def do(self, change):
        getattr(self, "do_" + change[0])(*change[1:])

    def need(self, is_so):
        if not is_so:
            raise Impossible

    def do_put(self, entry):
        self.entries[entry[0]] = entry

    def do_gone(self, number):
        self.need(number in self.entries)
        del self.entries[number]

    def do_hold(self, number):
        self.need(number not in self.held)
        self.held.add(number)

    def do_free(self, number):
        self.need(number in self.held)
        self.held.remove(number)

    def do_wait(self, way, topic, body):
        self.need(self.words is not None and len(self.words) < 12)
        self.words.append((way, topic, body))

    def do_went(self):
        self.need(self.words)
        self.words.pop(0)


def behind(memory, changes):
    """The memory behind changes; raises Impossible."""
    told = Memory(memory)
    for change in changes:
        told.do(change)
    return told.told()


def some_word(dice):
    return (dice.choice(WAYS), dice.choice(TOPICS[:4]), dice.randrange(1000))


def some_entry(dice):
    way = dice.choice(WAYS[1:])
    state = "let" if way == "paired" and dice.randrange(2) else "sent"
    return (dice.randrange(8), way, state, dice.choice(TOPICS), dice.randrange(1000))


def some_change(dice):
    word = dice.choice(("put", "put", "gone", "hold", "hold", "free", "wait", "wait", "went"))
    if word == "put":
        return (word, some_entry(dice))
    if word == "wait":
        return (word,) + some_word(dice)
    return (word,) if word == "went" else (word, dice.randrange(8))


def some_changes(dice, memory, most):
    """Changes that can be done one after another, some of the tried ones being left out."""
    told, changes = Memory(memory), []
    for _ in range(dice.randrange(most + 1)):
        change = some_change(dice)
        try:
            told.do(change)
        except Impossible:
            continue
        changes.append(change)
    return tuple(changes)


def some_memory(dice, is_client):
    memory = EMPTY_CLIENT if is_client else EMPTY_SESSION
    return behind(memory, some_changes(dice, memory, 30))


def octets_told(change):
    """The octets of a change."""
    word, *items = change
    if word == "put":
        number, way, state, topic, body = items[0]
        return [1, number, WAYS.index(way), ["sent", "let"].index(state), *text(topic), body // 256, body % 256]
    if word == "wait":
        way, topic, body = items
        return [5, WAYS.index(way), *text(topic), body // 256, body % 256]
    return [{"gone": 2, "hold": 3, "free": 4, "went": 6}[word], *items]


def text(topic):
    return [len(topic), *topic.encode()]


def block(head, changes):
    inner = [octet for change in changes for octet in octets_told(change)]
    octets = [*head, len(inner) // 256, len(inner) % 256, *inner]
    return tuple(octets + [sum(octets) % 256])


def lot(changes):
    return block([20], changes)


def changes_of(memory):
    words = memory[2] if len(memory) == 3 else ()
    return (
        [("put", entry) for entry in memory[0]] + [("hold", number) for number in memory[1]]
        + [("wait", *word) for word in words]
    )


def begin(turn, steps, memory):
    return block([19 + len(memory), turn, steps], changes_of(memory))


def read_change(octets):
    """The change that the octets of a list begin with, which are taken from it; raises Impossible."""
    def taken(most):
        if not octets or octets[0] > most:
            raise Impossible
        return octets.pop(0)

    def topic():
        many = taken(34)
        if many > len(octets):
            raise Impossible
        name = "".join(map(chr, [octets.pop(0) for _ in range(many)]))
        steps = name.split("/")
        if len(steps) > 5 or not all(1 <= len(step) <= 6 and set(step) <= LETTERS for step in steps):
            raise Impossible
        return name

    def body():
        told = taken(3) * 256
        told += taken(255)
        if told > 999:
            raise Impossible
        return told

    kind = taken(6)
    if kind == 1:
        number, way, state = taken(7), WAYS[taken(2)], ("sent", "let")[taken(1)]
        if way == "light" or (way, state) == ("marked", "let"):
            raise Impossible
        return ("put", (number, way, state, topic(), body()))
    if kind == 5:
        return ("wait", WAYS[taken(2)], topic(), body())
    if kind == 6:
        return ("went",)
    if kind == 0:
        raise Impossible
    return ({2: "gone", 3: "hold", 4: "free"}[kind], taken(7))


LETTERS = set("abcdefghijklmnopqrstuvwxyz")


def read_block(octets, heads):
    """The changes of a whole lot or begin at the start of octets, and how many octets it has; raises Impossible."""
    if len(octets) < heads + 3:
        raise Impossible
    many = octets[heads] * 256 + octets[heads + 1]
    size = heads + 3 + many
    if len(octets) < size or sum(octets[:size - 1]) % 256 != octets[size - 1]:
        raise Impossible
    rest, changes = list(octets[heads + 2:size - 1]), []
    while rest:
        changes.append(read_change(rest))
    return changes, size


def read(track):
    """What is read of a track, or None."""
    try:
        if not track or track[0] not in (21, 22):
            return None
        changes, at = read_block(track, 3)
        memory = behind(EMPTY_CLIENT if track[0] == 21 else EMPTY_SESSION, changes)
    except Impossible:
        return None
    if changes != changes_of(memory):
        return None
    turn, steps = track[1], track[2]
    while track[at:at + 1] == (20,):
        try:
            changes, size = read_block(track[at:], 1)
            memory = behind(memory, changes)
        except Impossible:
            break
        at, steps = at + size, steps + 1
    return turn, steps, memory, at
