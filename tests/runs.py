"""Rows of events by chance, told by the same seed again."""

from tests.model import Impossible, Model

NAMES = ("ann", "bob", "cid")
TOPICS = ("a", "a/b", "b", "c/a/b")
WISHES = ("a", "a/#", "+", "#", "+/b", "c/+/b", "b")
WAYS = ("light", "marked", "paired")


def some_event(dice, model, weights):
    word = dice.choices(list(weights), weights=list(weights.values()))[0]
    name, side = dice.choice(model.names), dice.choice(("coming", "going"))
    if word == "give":
        return (word, name, dice.choice(WAYS), dice.choice(TOPICS), dice.randrange(3))
    if word == "wish":
        return (word, name, dice.choice(WISHES), dice.choice(WAYS))
    if word == "unwish":
        return (word, name, dice.choice(WISHES))
    if word in ("write", "stop"):
        return (word, dice.choice(model.names + [""]))
    if word == "pass":
        return (word, name)
    if word == "arrive":
        return (word, name, side)
    return (word, name, side, dice.randrange(8 if word == "again" else 4))


CALM = {"give": 6, "wish": 3, "unwish": 1, "pass": 8, "arrive": 16, "again": 2}
HARSH = {**CALM, "lose": 3, "double": 3, "turn": 3, "write": 1, "stop": 1}


def some_run(dice, manner, many, weights, names=NAMES):
    """The events of a row, and the model behind them."""
    model, events = Model(manner, names), []
    for _ in range(many):
        event = some_event(dice, model, weights)
        try:
            model = model.behind(event)
        except Impossible:
            continue
        events.append(event)
    return tuple(events), model


MANNERS = tuple((ring, ahead, careful) for ring in (1, 2, 3, 8) for ahead in (False, True) for careful in (False, True))
