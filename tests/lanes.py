"""A second telling of yards and the letters in them, by objects that change."""

import copy

from tests.houses import NAMES, WISHES
from tests.model import RANK, meets

TOPICS = ("a", "a/b", "b", "c")
REASONS = ("full", "old", "refused", "tired")


class Impossible(Exception):
    """An act can't happen."""


class Letter:
    def __init__(self, mark, rank, topic, body, since, takes=0, deaths=()):
        self.mark, self.rank, self.topic, self.body = mark, rank, topic, body
        self.since, self.takes, self.deaths = since, takes, list(deaths)
        self.lane, self.place = None, None

    def told(self):
        return (self.mark, self.rank, self.topic, self.body, self.since, self.takes, tuple(self.deaths))


class Yard:
    """All letters in one list, each of which tells where it is."""

    def __init__(self, plan):
        self.plan, self.turn = plan, 0
        self.lanes = {lane[0]: lane for lane in plan}
        self.letters, self.ended, self.twice = [], [], False

    def lying(self, lane):
        letters = [letter for letter in self.letters if letter.place == "lies" and letter.lane == lane]
        return sorted(letters, key=lambda letter: (3 - letter.rank, letter.since, letter.mark))

    def held(self):
        return [letter for letter in self.letters if letter.place == "held"]

    def yard(self):
        return (
            self.plan, self.turn, tuple(tuple(letter.told() for letter in self.lying(lane)) for lane in self.lanes),
            tuple((letter.lane, letter.told()) for letter in self.held()),
            tuple((letter.lane, letter.told(), letter.place) for letter in self.ended), len(self.letters),
        )

    def behind(self, act):
        yard = copy.deepcopy(self)
        getattr(yard, "do_" + act[0])(*act[1:])
        if yard.turn > 1000 or len(yard.held()) > 40 or len(yard.letters) > 400 or yard.twice:
            raise Impossible
        return yard

    def end(self, letter, place):
        letter.place = place
        self.ended.append(letter)

    def lay(self, letter, lane):
        letter.lane, letter.place = lane, "lies"
        if len(self.lying(lane)) > self.lanes[lane][2]:
            self.die(self.lying(lane)[-1], "full")

    def die(self, letter, reason):
        pair, dead = (letter.lane, reason), self.lanes[letter.lane][4]
        was_there = pair in letter.deaths
        letter.deaths.append(pair)
        if dead is None:
            self.twice = self.twice or was_there
            self.end(letter, "gone")
        elif was_there:
            self.end(letter, "gone")
        else:
            letter.since, letter.takes = self.turn, 0
            self.lay(letter, dead)

    def do_put(self, rank, topic, body):
        for lane in self.plan:
            if any(meets(topic, wish) for wish in lane[1]):
                letter = Letter(len(self.letters), rank, topic, body, self.turn)
                self.letters.append(letter)
                self.lay(letter, lane[0])

    def do_take(self, lane):
        if lane not in self.lanes or not self.lying(lane):
            raise Impossible
        letter = self.lying(lane)[0]
        letter.place, letter.takes = "held", letter.takes + 1

    def letter_held(self, mark):
        found = [letter for letter in self.held() if letter.mark == mark]
        if not found:
            raise Impossible
        return found[0]

    def do_done(self, mark):
        self.end(self.letter_held(mark), "heard")

    def do_refuse(self, mark):
        letter = self.letter_held(mark)
        letter.place = None
        self.die(letter, "refused")

    def is_old(self, letter):
        life = self.lanes[letter.lane][3]
        return life is not None and self.turn - letter.since >= life

    def do_back(self, mark):
        letter = self.letter_held(mark)
        letter.place = None
        if letter.takes == self.lanes[letter.lane][5]:
            self.die(letter, "tired")
        elif self.is_old(letter):
            self.die(letter, "old")
        else:
            self.lay(letter, letter.lane)

    def do_tick(self):
        self.turn += 1
        for lane in self.plan:
            old = [letter for letter in self.lying(lane[0]) if self.is_old(letter)]
            for letter in old:
                letter.place = None
            for letter in old:
                self.die(letter, "old")

    def ticks_to_rest(self):
        """By how many ticks no letter lies, told one by one; None if it takes more than any letter can go round."""
        yard = copy.deepcopy(self)
        for ticks in range(200):
            if not any(letter.place == "lies" for letter in yard.letters):
                return ticks
            yard.do_tick()
        return None

    def deaths_in(self, lane):
        deaths = [death for letter in self.letters for death in letter.deaths]
        return tuple(deaths.count((lane, reason)) for reason in REASONS)


def yard_told(yard):
    """A yard as objects."""
    told = Yard(yard[0])
    told.turn = yard[1]
    rows = [("lies", lane[0], letter) for lane, lot in zip(yard[0], yard[2]) for letter in lot]
    rows += [("held", lane, letter) for lane, letter in yard[3]]
    rows += [(word, lane, letter) for lane, letter, word in yard[4]]
    for place, lane, values in rows:
        letter = Letter(*values)
        letter.place, letter.lane = place, lane
        told.letters.append(letter)
        if place in ("heard", "gone"):
            told.ended.append(letter)
    told.letters.sort(key=lambda letter: letter.mark)
    return told


def some_plan(dice, lives=(None, 1, 2, 3, 5), most=3):
    """A plan with small lanes, in which much dies."""
    names = sorted(dice.sample(NAMES, dice.randrange(1, 5)))
    return tuple(
        (name, tuple(sorted(dice.sample(WISHES, dice.randrange(1, 4)))), dice.randrange(1, most + 1),
         dice.choice(lives), dice.choice(names + names + [None]), dice.randrange(1, 4))
        for name in names
    )


def some_act(dice, yard):
    word = dice.choice(("put", "put", "put", "take", "take", "tick", "done", "refuse", "back", "back"))
    if word == "put":
        return (word, dice.randrange(4), dice.choice(TOPICS), dice.randrange(9))
    if word == "take":
        return (word, dice.choice(list(yard.lanes) + ["zoe"]))
    if word == "tick":
        return (word,)
    held = [letter.mark for letter in yard.held()]
    return (word, dice.choice(held) if held and dice.randrange(9) else dice.randrange(20))


def some_acts(dice, many, plan=None):
    """Acts that can happen, one after another, and the yard behind them."""
    yard, acts = Yard(plan or some_plan(dice)), []
    while len(acts) < many:
        act = some_act(dice, yard)
        try:
            yard = yard.behind(act)
        except Impossible:
            continue
        acts.append(act)
    return tuple(acts), yard


def ranks_of(owned):
    """The acts "put" for all words that a broker owns."""
    return [("put", RANK[way], topic, body) for _, way, topic, body in owned]
