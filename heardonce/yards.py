"""Yards: letters that lie in lanes, are held, or have come to their end."""

from heardonce.checks import is_integer, is_rising
from heardonce.errors import InvalidMark, InvalidYard
from heardonce.laneplans import MOST_TRIES, check_lane_in, check_plan, is_lane_plan
from heardonce.layings import is_old, let_grow_old, lying_key
from heardonce.names import is_body, is_topic

REASONS = ("full", "old", "refused", "tired")
ENDS = ("heard", "gone")
MOST_MARKS = 400
MOST_RANK = 3
MOST_TURN = 1000
MOST_HELD = 40


def is_death(value, names):
    return isinstance(value, tuple) and len(value) == 2 and value[0] in names and value[1] in REASONS


def is_letter(value, names, turn):
    """Tell whether any value is a letter of a yard whose lanes have these names, at a turn."""
    if not isinstance(value, tuple) or len(value) != 7:
        return False
    mark, rank, topic, body, since, takes, deaths = value
    return (
        is_integer(mark, 0, MOST_MARKS - 1) and is_integer(rank, 0, MOST_RANK) and is_topic(topic) and is_body(body)
        and is_integer(since, 0, turn) and is_integer(takes, 0, MOST_TRIES) and isinstance(deaths, tuple)
        and all([is_death(death, names) for death in deaths])
    )


def are_unlike(deaths):
    return len(set(deaths)) == len(deaths)


def can_lie(lane, letter, turn):
    """Tell whether a letter may lie in a lane at a turn."""
    return letter[5] < lane[5] and not is_old(lane, turn, letter) and are_unlike(letter[6])


def is_lot_of_letters(value, lane, names, turn):
    """Tell whether any value is the tuple of the letters that lie in a lane."""
    if not isinstance(value, tuple) or len(value) > lane[2]:
        return False
    if not all([is_letter(letter, names, turn) and can_lie(lane, letter, turn) for letter in value]):
        return False
    return is_rising([lying_key(letter) for letter in value])


def are_held(value, plan, names, turn):
    """Tell whether any value is the tuple of the pairs (lane, letter) that are held."""
    if not isinstance(value, tuple) or len(value) > MOST_HELD:
        return False
    for pair in value:
        if not isinstance(pair, tuple) or len(pair) != 2 or pair[0] not in names:
            return False
        if not is_letter(pair[1], names, turn) or not are_unlike(pair[1][6]):
            return False
        if not 1 <= pair[1][5] <= plan[names.index(pair[0])][5]:
            return False
    return is_rising([letter[0] for _, letter in value])


def is_gone_right(lane, deaths):
    """Tell whether these may be the deaths of a letter that is gone in a lane."""
    if not deaths or deaths[-1][0] != lane[0]:
        return False
    return are_unlike(deaths[:-1]) and (deaths[-1] in deaths[:-1]) == (lane[4] is not None)


def are_ended(value, plan, names, turn):
    """Tell whether any value is the tuple of the triples (lane, letter, word) that are ended."""
    if not isinstance(value, tuple) or len(value) > MOST_MARKS:
        return False
    for row in value:
        if not isinstance(row, tuple) or len(row) != 3 or row[0] not in names or row[2] not in ENDS:
            return False
        if not is_letter(row[1], names, turn):
            return False
        deaths = row[1][6]
        is_right = are_unlike(deaths) if row[2] == "heard" else is_gone_right(plan[names.index(row[0])], deaths)
        if not is_right:
            return False
    return True


def all_letters(yard):
    """The list of all letters that were ever in a yard."""
    lying = [letter for lot in yard[2] for letter in lot]
    return lying + [letter for _, letter in yard[3]] + [letter for _, letter, _ in yard[4]]


def is_yard(value):
    """Tell whether any value is a yard."""
    if not isinstance(value, tuple) or len(value) != 6:
        return False
    plan, turn, lots, held, ended, marks = value
    if not is_lane_plan(plan) or not is_integer(turn, 0, MOST_TURN) or not is_integer(marks, 0, MOST_MARKS):
        return False
    names = [lane[0] for lane in plan]
    if not isinstance(lots, tuple) or len(lots) != len(plan):
        return False
    if not all([is_lot_of_letters(lot, lane, names, turn) for lot, lane in zip(lots, plan)]):
        return False
    if not are_held(held, plan, names, turn) or not are_ended(ended, plan, names, turn):
        return False
    return sorted([letter[0] for letter in all_letters(value)]) == list(range(marks))


def check_yard(yard):
    if not is_yard(yard):
        raise InvalidYard("not a yard")


def fresh_yard(plan):
    """The fresh yard of a plan."""
    check_plan(plan)
    return plan, 0, ((),) * len(plan), (), (), 0


def places_of(yard):
    """The list of the triples (word, lane, letter) of all letters that were ever in a yard."""
    lying = [("lies", lane[0], letter) for lane, lot in zip(yard[0], yard[2]) for letter in lot]
    held = [("held", name, letter) for name, letter in yard[3]]
    return lying + held + [(word, name, letter) for name, letter, word in yard[4]]


def place_of_letter(yard, mark):
    """The triple (word, lane, letter) of the letter with a mark."""
    check_yard(yard)
    if not is_integer(mark, 0, yard[5] - 1):
        raise InvalidMark("not a mark of a letter")
    return [place for place in places_of(yard) if place[2][0] == mark][0]


def deaths_in(yard, lane):
    """How many deaths there were in a lane for each reason."""
    check_yard(yard)
    check_lane_in(yard[0], lane)
    deaths = [death for letter in all_letters(yard) for death in letter[6]]
    return tuple([deaths.count((lane, reason)) for reason in REASONS])


def next_old(plan, lots):
    """The least turn at which a letter that lies is old, or None if some lies without an end."""
    turns = []
    for lane, lot in zip(plan, lots):
        if lot and lane[3] is None:
            return None
        turns += [letter[4] + lane[3] for letter in lot]
    return min(turns)


def ticks_to_rest(yard):
    """By how many ticks no letter lies any more, or None if some lies without an end."""
    check_yard(yard)
    plan, first = yard[:2]
    lots, turn = [list(lot) for lot in yard[2]], first
    # A lane without life never gets empty by ticks: whoever pushes a letter out of it lies there instead.
    while any(lots):
        turn = next_old(plan, lots)
        if turn is None:
            return None
        let_grow_old(plan, turn, lots, [])
    return turn - first
