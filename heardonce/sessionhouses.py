"""Houses of sessions that go on for told turns, and the steps in them."""

from heardonce.checks import is_integer, is_rising, is_row
from heardonce.errors import CannotStep, InvalidHouse, InvalidNames, InvalidStep, InvalidSteps
from heardonce.frames import is_item
from heardonce.housesteps import MOST_SESSIONS, MOST_TURN, stepped, way_to_session
from heardonce.names import check_topic, check_way, is_name
from heardonce.worlds import MOST_WAITING, MOST_WISHES, are_wish_pairs, check_world, is_word

MOST_KEEP = 1000
MOST_STEPS = 60
RULES = ("elder", "newer", "light")
STEP_ITEMS = {
    "open": ("name", "bool", "terms"),
    "shut": ("name",),
    "break": ("name",),
    "wish": ("name", "wish", "way"),
    "unwish": ("name", "wish"),
    "tell": ("way", "topic", "body"),
    "take": ("name", "many"),
    "turn": (),
}


def is_room(value):
    return is_integer(value, 1, MOST_WAITING)


def is_terms(value):
    """Tell whether any value is terms."""
    return (
        isinstance(value, tuple) and len(value) == 4 and is_integer(value[0], 0, MOST_KEEP) and is_room(value[1])
        and value[2] in RULES and (value[3] is None or is_word(value[3]))
    )


def is_waiting(value):
    """Tell whether any value is a word that waits, with a turn that some house may have."""
    return isinstance(value, tuple) and len(value) == 4 and is_integer(value[0], 0, MOST_TURN) and is_word(value[1:])


def is_house_session(value):
    """Tell whether any value is a session of a house with some turn."""
    if not isinstance(value, tuple) or len(value) != 5:
        return False
    name, state, terms, wishes, waits = value
    if not is_name(name) or not is_terms(terms) or not are_wish_pairs(wishes, MOST_WISHES):
        return False
    if state != "open" and not is_integer(state, 1, terms[0]):
        return False
    return is_row(waits, 0, terms[1], is_waiting) and are_in_turn(waits)


def are_in_turn(waits):
    """Tell whether the turns of words that wait are ascending or alike."""
    return all([one[0] <= other[0] for one, other in zip(waits, waits[1:])])


def is_house(value):
    """Tell whether any value is a house."""
    if not isinstance(value, tuple) or len(value) != 2:
        return False
    turn, sessions = value
    if not is_integer(turn, 0, MOST_TURN) or not is_row(sessions, 0, MOST_SESSIONS, is_house_session):
        return False
    if not is_rising([session[0] for session in sessions]):
        return False
    return all([word[0] <= turn for session in sessions for word in session[4]])


def is_step_item(sort, value):
    """Tell whether any value is an item of a sort, for a step."""
    if sort == "terms":
        return is_terms(value)
    return is_room(value) if sort == "many" else is_item(sort, value)


def is_house_step(value):
    """Tell whether any value is a step of a house."""
    if not isinstance(value, tuple) or not value or not isinstance(value[0], str) or value[0] not in STEP_ITEMS:
        return False
    sorts = STEP_ITEMS[value[0]]
    return len(value) == 1 + len(sorts) and all([is_step_item(sort, item) for sort, item in zip(sorts, value[1:])])


def check_house(house):
    if not is_house(house):
        raise InvalidHouse("not a house")


def check_steps(steps):
    if not is_row(steps, 0, MOST_STEPS, is_house_step):
        raise InvalidSteps("not a tuple of steps")


def check_name(name):
    if not is_name(name):
        raise InvalidNames("not a name")


def stepped_right(house, step, more):
    """The pair of the house behind a step and of what this tells; it raises CannotStep."""
    behind = stepped(house, step, more)
    if behind is None:
        raise CannotStep("a step can't be done")
    return behind


def house_stepped(house, step):
    """The pair of the house behind a step, and of what this tells."""
    check_house(house)
    if not is_house_step(step):
        raise InvalidStep("not a step of a house")
    return stepped_right(house, step, ())


def sessions_for(house, way, topic):
    """The list of the pairs of each session to which a word would come, and of the way in which it would."""
    check_house(house)
    check_way(way)
    check_topic(topic)
    pairs = [(session[0], way_to_session(session, way, topic)) for session in house[1]]
    return [pair for pair in pairs if pair[1] is not None]


def house_of_world(world):
    """The house with a session for each one of a world."""
    check_world(world)
    terms = (MOST_KEEP, MOST_WAITING, "newer", None)
    return 0, tuple([
        (name, "open", terms, wishes, tuple([(0,) + word for word in memory[2]]))
        for name, wishes, memory, _ in world[2]
    ])
