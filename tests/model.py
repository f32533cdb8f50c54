"""A second telling of worlds and events, by objects that change, to set beside the program."""

RANK = {"light": 0, "marked": 1, "paired": 2}


class Impossible(Exception):
    """An event can't happen."""


class Hand:
    """What a client, or the broker on one line, keeps."""

    def __init__(self):
        self.giving = {}
        self.taking = set()
        self.waiting = []

    def copied(self):
        hand = Hand()
        hand.giving, hand.taking, hand.waiting = dict(self.giving), set(self.taking), list(self.waiting)
        return hand

    def told(self, is_client):
        giving = tuple((number,) + self.giving[number] for number in sorted(self.giving))
        parts = (giving, tuple(sorted(self.taking)))
        return parts if is_client else parts + (tuple(self.waiting),)


def copied_hands(hands):
    return {key: hand.copied() for key, hand in hands.items()}


class Model:
    def __init__(self, manner, names):
        self.ring, self.ahead, self.careful = manner
        self.names = list(names)
        # By (name, side): the side is that to which the hand gives.
        self.hands = {(name, side): Hand() for name in names for side in ("coming", "going")}
        self.logs = copied_hands(self.hands)
        self.frames = {key: [] for key in self.hands}
        self.wishes = {name: {} for name in names}
        self.heard = {name: [] for name in names}
        self.due, self.given, self.owned = [], [], []

    def copied(self):
        model = Model((self.ring, self.ahead, self.careful), self.names)
        model.hands, model.logs = copied_hands(self.hands), copied_hands(self.logs)
        model.frames = {key: list(frames) for key, frames in self.frames.items()}
        model.wishes = {name: dict(wishes) for name, wishes in self.wishes.items()}
        model.heard = {name: list(heard) for name, heard in self.heard.items()}
        model.due, model.given, model.owned = list(self.due), list(self.given), list(self.owned)
        return model

    def world(self):
        clients = tuple(
            (name, self.hands[name, "coming"].told(True), self.logs[name, "coming"].told(True),
             tuple(self.heard[name])) for name in self.names
        )
        sessions = tuple(
            (name, tuple(sorted(self.wishes[name].items())), self.hands[name, "going"].told(False),
             self.logs[name, "going"].told(False)) for name in self.names
        )
        lines = tuple(
            (name, tuple(self.frames[name, "coming"]), tuple(self.frames[name, "going"])) for name in self.names
        )
        manner = (self.ring, self.ahead, self.careful)
        return (manner, clients, sessions, lines, tuple(self.due), tuple(self.given), tuple(self.owned))

    def too_much(self):
        return (
            any(len(frames) > 12 for frames in self.frames.values())
            or any(len(hand.waiting) > 12 for hand in self.hands.values())
            or any(len(wishes) > 4 for wishes in self.wishes.values())
            or any(len(heard) > 100 for heard in self.heard.values())
            or max(len(self.due), len(self.given), len(self.owned)) > 100
        )

    def behind(self, event):
        """A new model, behind an event; raises Impossible."""
        model = self.copied()
        if event[0] not in ("write", "stop") and event[1] not in model.names:
            raise Impossible
        getattr(model, "do_" + event[0])(*event[1:])
        if model.ahead:
            model.logs = copied_hands(model.hands)
        if model.too_much():
            raise Impossible
        return model

    def give(self, name, side, way, topic, body):
        if way == "light":
            self.frames[name, side].append(("word", "light", None, False, topic, body))
            return
        taken = set(self.hands[name, side].giving)
        if self.careful:
            for frame in self.frames[name, "coming"] + self.frames[name, "going"]:
                taken.add(frame[2] if frame[0] == "word" else frame[1])
        for number in range(self.ring):
            if number not in taken:
                self.hands[name, side].giving[number] = (way, "sent", topic, body)
                self.frames[name, side].append(("word", way, number, False, topic, body))
                return
        raise Impossible

    def do_give(self, name, way, topic, body):
        self.give(name, "coming", way, topic, body)
        self.given.append((name, way, topic, body))

    def do_wish(self, name, wish, way):
        self.wishes[name][wish] = way

    def do_unwish(self, name, wish):
        if wish not in self.wishes[name]:
            raise Impossible
        del self.wishes[name][wish]

    def do_pass(self, name):
        hand = self.hands[name, "going"]
        if not hand.waiting:
            raise Impossible
        self.give(name, "going", *hand.waiting.pop(0))

    def do_arrive(self, name, side):
        if not self.frames[name, side]:
            raise Impossible
        frame = self.frames[name, side].pop(0)
        back = {"coming": "going", "going": "coming"}[side]
        hand, answers = self.hands[name, back], self.frames[name, back]
        if frame[0] == "word":
            self.arrive_word(name, side, frame, hand, answers)
            return
        number = frame[1]
        entry = hand.giving.get(number)
        if frame[0] == "heard" and entry and entry[0] == "marked":
            del hand.giving[number]
        if frame[0] == "taken":
            on_line = [other for other in answers if other[0] == "word" and other[2] == number]
            if not (self.careful and on_line):
                if entry and entry[0] == "paired":
                    hand.giving[number] = ("paired", "let") + entry[2:]
                answers.append(("let", number))
        if frame[0] == "let":
            hand.taking.discard(number)
            answers.append(("done", number))
        if frame[0] == "done" and entry and entry[:2] == ("paired", "let"):
            del hand.giving[number]

    def arrive_word(self, name, side, frame, hand, answers):
        _, way, number, _, topic, body = frame
        if not (way == "paired" and number in hand.taking):
            if way == "paired":
                hand.taking.add(number)
            if side == "going":
                self.heard[name].append((topic, body))
            else:
                self.owned.append((name, way, topic, body))
                self.spread(way, topic, body)
        if way != "light":
            answers.append(({"marked": "heard", "paired": "taken"}[way], number))

    def spread(self, way, topic, body):
        for name in sorted(self.names):
            ways = [RANK[asked] for wish, asked in self.wishes[name].items() if meets(topic, wish)]
            if ways:
                lesser = ("light", "marked", "paired")[min(RANK[way], max(ways))]
                self.due.append((name, lesser, topic, body))
                self.hands[name, "going"].waiting.append((lesser, topic, body))

    def harmed(self, name, side, index):
        frames = self.frames[name, side]
        if index >= len(frames):
            raise Impossible
        return frames

    def do_lose(self, name, side, index):
        del self.harmed(name, side, index)[index]

    def do_double(self, name, side, index):
        frames = self.harmed(name, side, index)
        if frames[index][:2] == ("word", "light"):
            raise Impossible
        frames.insert(index, frames[index])

    def do_turn(self, name, side, index):
        frames = self.harmed(name, side, index + 1)
        frames[index], frames[index + 1] = frames[index + 1], frames[index]

    def do_again(self, name, side, number):
        entry = self.hands[name, side].giving.get(number)
        if entry is None:
            raise Impossible
        way, state, topic, body = entry
        frame = ("let", number) if state == "let" else ("word", way, number, True, topic, body)
        self.frames[name, side].append(frame)

    def keys(self, name):
        if name == "":
            return [(other, "going") for other in self.names]
        if name not in self.names:
            raise Impossible
        return [(name, "coming")]

    def do_write(self, name):
        for key in self.keys(name):
            self.logs[key] = self.hands[key].copied()

    def do_stop(self, name):
        for key in self.keys(name):
            self.hands[key] = self.logs[key].copied()
            for side in ("coming", "going"):
                self.frames[key[0], side] = []

    def is_at_rest(self):
        hands = list(self.hands.values()) + list(self.logs.values())
        return not any(hand.giving or hand.taking or hand.waiting for hand in hands) and not any(self.frames.values())

    def faults(self):
        found = []
        for name in self.names:
            words = set(self.heard[name]) | {due[2:] for due in self.due if due[0] == name}
            for word in words:
                often = self.heard[name].count(word)
                light, marked, paired = [self.due.count((name, way) + word) for way in RANK]
                if often < marked + paired:
                    found.append(("heard", name) + word + ("less",))
                if not marked and often > paired + light:
                    found.append(("heard", name) + word + ("more",))
        for word in set(self.given) | set(self.owned):
            often, given = self.owned.count(word), self.given.count(word)
            if word[1] != "light" and often < given:
                found.append(("owned",) + word + ("less",))
            if word[1] != "marked" and often > given:
                found.append(("owned",) + word + ("more",))
        return sorted(found)


def meets(topic, wish):
    steps, wanted = topic.split("/"), wish.split("/")
    for at, want in enumerate(wanted):
        if want == "#":
            return True
        if at >= len(steps) or want not in ("+", steps[at]):
            return False
    return len(steps) == len(wanted)


def all_named_events(names):
    """All events with these names but "give", "wish" and "unwish", whether they can happen or not."""
    events = [("write", ""), ("stop", "")]
    for name in names:
        events += [("write", name), ("stop", name), ("pass", name)]
        for side in ("coming", "going"):
            events.append(("arrive", name, side))
            events += [(word, name, side, at) for word in ("lose", "double", "turn") for at in range(12)]
            events += [("again", name, side, number) for number in range(8)]
    return events
