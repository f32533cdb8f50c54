"""A second telling of houses of sessions, by objects that change."""

import copy

from tests.model import RANK, meets

WAYS = ("light", "marked", "paired")
NAMES = ("ann", "bob", "cid", "dan", "eve", "fay", "guy")
RULES = ("elder", "newer", "light")
TOPICS = ("a", "a/b", "b")
WISHES = ("#", "a/#", "a", "+", "b", "a/b")


class Impossible(Exception):
    """A step can't be done."""


class Word:
    """A word that came to a session, and what became of it."""

    def __init__(self, name, turn, way, topic, body, came):
        self.name, self.turn, self.way, self.topic, self.body, self.came = name, turn, way, topic, body, came
        self.fate = None

    def told(self):
        return (self.turn, self.way, self.topic, self.body)


class Session:
    def __init__(self, name, terms):
        self.name, self.left = name, None
        self.keep, self.room, self.rule, self.last = terms
        self.wishes, self.words = {}, []

    def told(self):
        terms = (self.keep, self.room, self.rule, self.last)
        state = "open" if self.left is None else self.left
        return (self.name, state, terms, tuple(sorted(self.wishes.items())), tuple(word.told() for word in self.words))


class House:
    def __init__(self, house):
        self.turn, self.sessions, self.words, self.at = house[0], {}, [], 0
        for name, state, terms, wishes, waits in house[1]:
            session = Session(name, terms)
            session.left = None if state == "open" else state
            session.wishes = dict(wishes)
            session.words = [Word(name, *word, None) for word in waits]
            self.sessions[name] = session

    def house(self):
        return (self.turn, tuple(self.sessions[name].told() for name in sorted(self.sessions)))

    def stepped(self, step):
        """A new house behind a step, with what this tells in `said`; raises Impossible."""
        house = copy.deepcopy(self)
        house.said = []
        getattr(house, "do_" + step[0])(*step[1:])
        if len(house.sessions) > 6 or house.turn > 10 ** 6:
            raise Impossible
        if any(len(session.wishes) > 4 for session in house.sessions.values()):
            raise Impossible
        house.at += 1
        return house

    def done(self, word, *told):
        word.fate = (told[0], self.at)
        if told[0] == "handed":
            self.said.append(("handed", word.name) + word.told())
        else:
            self.said.append(("dropped", word.name, told[0]) + word.told())

    def session(self, name):
        session = self.sessions.get(name)
        if session is None or session.left is not None:
            raise Impossible
        return session

    def end(self, session):
        for word in session.words:
            self.done(word, "end")
        self.said.append(("ended", session.name))
        del self.sessions[session.name]

    def do_open(self, name, fresh, terms):
        old = self.sessions.get(name)
        if old is not None and old.left is None:
            self.do_break(name)
        old = self.sessions.get(name)
        if old is not None and not fresh:
            old.left = None
            old.keep, old.room, old.rule, old.last = terms
            while len(old.words) > old.room:
                self.drop(old)
            self.said.append(("on", name, len(old.words)))
            return
        if old is not None:
            self.end(old)
        self.sessions[name] = Session(name, terms)
        self.said.append(("new", name))

    def drop(self, session):
        """Drop one word of those that wait, the last one of which may have come just now."""
        light = [word for word in session.words if word.way == "light"]
        if session.rule == "newer":
            word = session.words[-1]
        elif session.rule == "light" and light:
            word = light[0]
        else:
            word = session.words[0]
        session.words.remove(word)
        self.done(word, "room")

    def do_shut(self, name):
        session = self.session(name)
        session.last = None
        session.left = session.keep
        if session.left == 0:
            self.end(session)

    def do_break(self, name):
        last = self.session(name).last
        self.do_shut(name)
        if last is not None:
            self.do_tell(*last)

    def do_wish(self, name, wish, way):
        self.session(name).wishes[wish] = way

    def do_unwish(self, name, wish):
        wishes = self.session(name).wishes
        if wish not in wishes:
            raise Impossible
        del wishes[wish]

    def do_tell(self, way, topic, body):
        for name in sorted(self.sessions):
            session = self.sessions[name]
            ranks = [RANK[wanted] for wish, wanted in session.wishes.items() if meets(topic, wish)]
            if ranks:
                word = Word(name, self.turn, WAYS[min(RANK[way], max(ranks))], topic, body, self.at)
                self.words.append(word)
                session.words.append(word)
                if len(session.words) > session.room:
                    self.drop(session)

    def do_take(self, name, many):
        session = self.session(name)
        for word in session.words[:many]:
            self.done(word, "handed")
        del session.words[:many]

    def do_turn(self):
        self.turn += 1
        for name in sorted(self.sessions):
            session = self.sessions[name]
            if session.left is not None:
                session.left -= 1
                if session.left == 0:
                    self.end(session)

    def fates(self):
        """The fates of all words that came, behind the last step."""
        return [
            (word.came, word.name, word.way, word.topic, word.body) + (word.fate or ("waits", self.at))
            for word in self.words
        ]


def some_word(dice):
    return (dice.choice(WAYS), dice.choice(TOPICS), dice.randrange(100))


def some_terms(dice):
    last = some_word(dice) if dice.randrange(2) else None
    return (dice.choice((0, 0, 1, 2, 5, 40)), dice.choice((1, 1, 2, 3, 12)), dice.choice(RULES), last)


def some_step(dice, names):
    name = dice.choice(names)
    word = dice.choices(
        ("open", "shut", "break", "wish", "unwish", "tell", "take", "turn"), weights=(4, 1, 2, 5, 1, 9, 2, 3),
    )[0]
    if word == "open":
        return (word, name, dice.randrange(3) == 0, some_terms(dice))
    if word == "wish":
        return (word, name, dice.choice(WISHES), dice.choice(WAYS))
    if word == "unwish":
        return (word, name, dice.choice(WISHES))
    if word == "tell":
        return (word,) + some_word(dice)
    if word == "take":
        return (word, name, dice.choice((1, 1, 2, 12)))
    return (word,) if word == "turn" else (word, name)


def some_steps(dice, house, many, names=NAMES[:3]):
    """Steps that can be done, one after another, behind a house, and the second telling behind them."""
    told, steps = House(house), []
    for _ in range(many):
        step = some_step(dice, names)
        try:
            told = told.stepped(step)
        except Impossible:
            continue
        steps.append(step)
    return tuple(steps), told


def some_house(dice, names=NAMES[:3]):
    return some_steps(dice, (dice.choice((0, 7)), ()), dice.randrange(60), names)[1].house()


def changed_terms(house, steps, name, place, value):
    """A house and steps with all keeps, or rooms, of a name replaced."""
    def terms(old):
        return tuple(value if at == place else item for at, item in enumerate(old))

    sessions = tuple(
        (one[0], one[1] if one[1] == "open" or place else min(one[1], value), terms(one[2])) + one[3:]
        if one[0] == name else one for one in house[1]
    )
    return (house[0], sessions), [
        step[:3] + (terms(step[3]),) if step[:2] == ("open", name) else step for step in steps
    ]


def told_leaving_out(house, steps):
    """The list of pairs (told ahead, step, what it tells) of the steps that can be done, others being left out."""
    told, found = House(house), []
    for step in steps:
        try:
            behind = told.stepped(step)
        except Impossible:
            continue
        found.append((told, step, behind.said))
        told = behind
    return found


def least_room_told(house, steps, name):
    waiting = [len(session[4]) for session in house[1] if session[0] == name]
    for room in range(1, 13):
        if waiting and waiting[0] > room:
            continue
        found = told_leaving_out(*changed_terms(house, steps, name, 1, room))
        if not any(one[:3] == ("dropped", name, "room") for _, _, said in found for one in said):
            return room
    return None


def least_keep_told(house, steps, name):
    for keep in range(61):
        if keep == 0 and any(session[0] == name and session[1] != "open" for session in house[1]):
            continue
        for ahead, step, said in told_leaving_out(*changed_terms(house, steps, name, 0, keep)):
            if ("ended", name) in said:
                if step[0] in ("shut", "break", "turn"):
                    break
                if ahead.sessions[name].left is None and ahead.sessions[name].keep == 0:
                    break
        else:
            return keep
    return None
