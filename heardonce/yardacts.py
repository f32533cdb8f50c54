"""Acts in yards, and the yards behind them."""

from heardonce.checks import is_integer
from heardonce.errors import CannotHappen, InvalidAct, InvalidActs
from heardonce.layings import die, index_of_lane, indices_met, is_old, lay, let_grow_old
from heardonce.names import WAYS, is_body, is_name, is_topic
from heardonce.worlds import check_world
from heardonce.yards import MOST_HELD, MOST_MARKS, MOST_RANK, MOST_TURN, check_yard

MOST_ACTS = 200
MARK_WORDS = ("done", "refuse", "back")


def is_act(value):
    """Tell whether any value is an act."""
    if not isinstance(value, tuple) or not value:
        return False
    if value[0] == "put":
        return len(value) == 4 and is_integer(value[1], 0, MOST_RANK) and is_topic(value[2]) and is_body(value[3])
    if value[0] == "take":
        return len(value) == 2 and is_name(value[1])
    if value[0] in MARK_WORDS:
        return len(value) == 2 and is_integer(value[1], 0, MOST_MARKS - 1)
    return value[0] == "tick" and len(value) == 1


def check_act(act):
    if not is_act(act):
        raise InvalidAct("not an act")


def lists_of(yard):
    """The lists with which work at a yard is done: that of what lies in each lane, and that of all that are ended."""
    return [list(lot) for lot in yard[2]], list(yard[4])


def died_twice(plan, row):
    """Tell whether a letter is gone in a lane without `dead` for a reason for which it had died there ahead."""
    name, letter, word = row
    return word == "gone" and letter[6][-1] in letter[6][:-1] and plan[index_of_lane(plan, name)][4] is None


def yard_behind(yard, turn, lots, held, ended):
    """The yard that has come of another one by these, or None if it would be none."""
    plan, marks = yard[0], len(held) + len(ended) + sum([len(lot) for lot in lots])
    if turn > MOST_TURN or len(held) > MOST_HELD or marks > MOST_MARKS:
        return None
    if any([died_twice(plan, row) for row in ended[len(yard[4]):]]):
        return None
    return plan, turn, tuple([tuple(lot) for lot in lots]), tuple(held), tuple(ended), marks


def behind_put(yard, act):
    plan, turn, marks = yard[0], yard[1], yard[5]
    lots, ended = lists_of(yard)
    for more, at in enumerate(indices_met(plan, act[2])):
        lay(plan, turn, lots, ended, at, (marks + more,) + act[1:] + (turn, 0, ()))
    return yard_behind(yard, turn, lots, yard[3], ended)


def behind_take(yard, name):
    plan, turn, _, held, _, _ = yard
    lots, ended = lists_of(yard)
    filled = [lot for lane, lot in zip(plan, lots) if lane[0] == name and lot]
    if not filled:
        return None
    letter = filled[0].pop(0)
    taken = (name, letter[:5] + (letter[5] + 1,) + letter[6:])
    return yard_behind(yard, turn, lots, sorted(held + (taken,), key=lambda pair: pair[1][0]), ended)


def give_back(plan, turn, lots, ended, at, letter):
    """Let a letter that was held in a lane die there, or lay it there again."""
    if letter[5] == plan[at][5]:
        die(plan, turn, lots, ended, at, letter, "tired")
    elif is_old(plan[at], turn, letter):
        die(plan, turn, lots, ended, at, letter, "old")
    else:
        lay(plan, turn, lots, ended, at, letter)


def behind_mark(yard, act):
    """The yard behind an act with a letter that is held, or None if it can't happen."""
    plan, turn, _, held, _, _ = yard
    word, mark = act
    picked = [pair for pair in held if pair[1][0] == mark]
    if not picked:
        return None
    name, letter = picked[0]
    lots, ended = lists_of(yard)
    at = index_of_lane(plan, name)
    if word == "done":
        ended.append((name, letter, "heard"))
    elif word == "refuse":
        die(plan, turn, lots, ended, at, letter, "refused")
    else:
        give_back(plan, turn, lots, ended, at, letter)
    return yard_behind(yard, turn, lots, [pair for pair in held if pair[1][0] != mark], ended)


def behind_tick(yard):
    lots, ended = lists_of(yard)
    let_grow_old(yard[0], yard[1] + 1, lots, ended)
    return yard_behind(yard, yard[1] + 1, lots, yard[3], ended)


def behind_act(yard, act):
    """The yard behind an act, or None if it can't happen, both being known to be such."""
    if act[0] == "put":
        return behind_put(yard, act)
    if act[0] == "take":
        return behind_take(yard, act[1])
    return behind_tick(yard) if act[0] == "tick" else behind_mark(yard, act)


def can_act(yard, act):
    """Tell whether an act can happen in a yard."""
    check_yard(yard)
    check_act(act)
    return behind_act(yard, act) is not None


def behind_acts(yard, acts):
    for act in acts:
        yard = behind_act(yard, act)
        if yard is None:
            raise CannotHappen("an act can't happen")
    return yard


def acted(yard, act):
    """The yard behind an act."""
    check_yard(yard)
    check_act(act)
    return behind_acts(yard, (act,))


def acted_all(yard, acts):
    """The yard behind some acts, one after another."""
    check_yard(yard)
    if not isinstance(acts, tuple) or len(acts) > MOST_ACTS or not all([is_act(act) for act in acts]):
        raise InvalidActs("not a tuple of acts")
    return behind_acts(yard, acts)


def acts_that_can(yard):
    """The ascending list of all acts that can happen, but for "put"."""
    check_yard(yard)
    acts = [("tick",)] + [("take", lane[0]) for lane in yard[0]]
    acts += [(word, letter[0]) for _, letter in yard[3] for word in MARK_WORDS]
    return sorted([act for act in acts if behind_act(yard, act) is not None])


def fed(yard, world):
    """The yard behind a "put" for each word that the broker of a world owns."""
    check_yard(yard)
    check_world(world)
    return behind_acts(yard, [("put", WAYS.index(way), topic, body) for _, way, topic, body in world[6]])
