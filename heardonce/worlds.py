"""Worlds: clients, sessions and lines, and what was heard and owned in them."""

from heardonce.checks import is_integer, is_rising, is_row
from heardonce.errors import InvalidManner, InvalidNames, InvalidSide, InvalidWorld
from heardonce.frames import is_frame, is_number
from heardonce.names import is_body, is_name, is_topic, is_way, is_wish
from heardonce.parts import memory_at

MOST_CLIENTS = 4
MOST_WISHES = 4
MOST_FRAMES = 12
MOST_WAITING = 12
MOST_ITEMS = 100
# The words of the frames on lines but for "word", which alone has six items.
ANSWERS = ("heard", "taken", "let", "done")
SIDES = ("coming", "going")
# The empty memories of a client, and of a session.
NO_BOOKS = ((), ())
NO_BOOKS_OR_WORDS = ((), (), ())


def is_manner(value):
    return (
        isinstance(value, tuple) and len(value) == 3 and is_integer(value[0], 1, 8)
        and isinstance(value[1], bool) and isinstance(value[2], bool)
    )


def are_names(value):
    """Tell whether any value is an ascending tuple of as many names as a world may have."""
    if not isinstance(value, tuple) or not 1 <= len(value) <= MOST_CLIENTS:
        return False
    return all([is_name(name) for name in value]) and is_rising(value)


def is_word(value):
    """Tell whether any value is a triple (way, topic, body)."""
    return (
        isinstance(value, tuple) and len(value) == 3
        and is_way(value[0]) and is_topic(value[1]) and is_body(value[2])
    )


def is_entry(value):
    if not isinstance(value, tuple) or len(value) != 5 or not is_number(value[0]):
        return False
    _, way, state, topic, body = value
    states = (("marked", "sent"), ("paired", "sent"), ("paired", "let"))
    return is_word((way, topic, body)) and (way, state) in states


def is_giving_book(value):
    return value == () or (is_row(value, 0, 8, is_entry) and is_rising([entry[0] for entry in value]))


def is_taking_book(value):
    return value == () or (is_row(value, 0, 8, is_number) and is_rising(value))


def is_client_memory(value):
    if value == NO_BOOKS:
        return True
    return isinstance(value, tuple) and len(value) == 2 and is_giving_book(value[0]) and is_taking_book(value[1])


def is_session_memory(value):
    return (
        isinstance(value, tuple) and len(value) == 3 and is_client_memory(value[:2])
        and is_row(value[2], 0, MOST_WAITING, is_word)
    )


def is_heard(value):
    return isinstance(value, tuple) and len(value) == 2 and is_topic(value[0]) and is_body(value[1])


def is_client(value):
    if not isinstance(value, tuple) or len(value) != 4:
        return False
    name, memory, log, heard = value
    return (
        is_name(name) and is_client_memory(memory) and is_client_memory(log)
        and is_row(heard, 0, MOST_ITEMS, is_heard)
    )


def is_wish_pair(value):
    """Tell whether any value is a pair (wish, way)."""
    return isinstance(value, tuple) and len(value) == 2 and is_wish(value[0]) and is_way(value[1])


def are_wish_pairs(value, most):
    """Tell whether any value is an ascending tuple of pairs (wish, way), no wish twice."""
    return is_row(value, 0, most, is_wish_pair) and is_rising([wish for wish, _ in value])


def is_session(value):
    """Tell whether any value is a session, whatever stands for its name."""
    if not isinstance(value, tuple) or len(value) != 4:
        return False
    _, wishes, memory, log = value
    return are_wish_pairs(wishes, MOST_WISHES) and is_session_memory(memory) and is_session_memory(log)


def is_line_frame(value):
    if not isinstance(value, tuple):
        return False
    if len(value) == 2:
        return value[0] in ANSWERS and is_number(value[1])
    return len(value) == 6 and is_frame(value)


def is_line(value):
    """Tell whether any value is a line, whatever stands for its name."""
    return (
        isinstance(value, tuple) and len(value) == 3
        and is_row(value[1], 0, MOST_FRAMES, is_line_frame) and is_row(value[2], 0, MOST_FRAMES, is_line_frame)
    )


def are_told_words(value, names):
    """Tell whether any value is a tuple of quadruples (name, way, topic, body) with some of these names."""
    if not isinstance(value, tuple) or len(value) > MOST_ITEMS:
        return False
    for word in value:
        if not isinstance(word, tuple) or len(word) != 4 or word[0] not in names or not is_word(word[1:]):
            return False
    return True


def frame_number(frame):
    """The number of a frame of those on lines, None for a light word."""
    return frame[2] if frame[0] == "word" else frame[1]


def numbers_of_memory(memory):
    return [entry[0] for entry in memory[0]] + list(memory[1])


def numbers_of(clients, sessions, lines):
    """The list of all numbers that stand somewhere, and of None for each light word."""
    numbers = []
    for hand in clients:
        numbers += numbers_of_memory(hand[1]) + numbers_of_memory(hand[2])
    for hand in sessions:
        numbers += numbers_of_memory(hand[2]) + numbers_of_memory(hand[3])
    for _, coming, going in lines:
        numbers += [frame_number(frame) for frame in coming + going]
    return numbers


def is_world(value):
    """Tell whether any value is a world."""
    if not isinstance(value, tuple) or len(value) != 7:
        return False
    manner, clients, sessions, lines, *told = value
    if not is_manner(manner) or not is_row(clients, 1, MOST_CLIENTS, is_client):
        return False
    names = [client[0] for client in clients]
    if not is_rising(names):
        return False
    if not is_row(sessions, len(names), len(names), is_session) or not is_row(lines, len(names), len(names), is_line):
        return False
    if [session[0] for session in sessions] != names or [line[0] for line in lines] != names:
        return False
    if not all([are_told_words(words, names) for words in told]):
        return False
    return all([number is None or number < manner[0] for number in numbers_of(clients, sessions, lines)])


def check_world(world):
    if not is_world(world):
        raise InvalidWorld("not a world")


def check_side(side):
    if side not in SIDES:
        raise InvalidSide("not a side")


def names_of(world):
    return [client[0] for client in world[1]]


def check_name_in(world, name):
    if name not in names_of(world):
        raise InvalidNames("not a name of the world")


def empty_world(manner, names):
    return (
        manner,
        tuple([(name, NO_BOOKS, NO_BOOKS, ()) for name in names]),
        tuple([(name, (), NO_BOOKS_OR_WORDS, NO_BOOKS_OR_WORDS) for name in names]),
        tuple([(name, (), ()) for name in names]),
        (), (), (),
    )


def fresh_world(manner, names):
    """A fresh world of these names."""
    if not is_manner(manner):
        raise InvalidManner("not a manner")
    if not are_names(names):
        raise InvalidNames("not an ascending tuple of names")
    return empty_world(manner, names)


def least_free(world, at, side):
    """The least number that is free for the hand that gives to a side of the line with an index, or None."""
    ring, _, careful = world[0]
    barred = [entry[0] for entry in memory_at(world, at, side)[0]]
    if careful:
        barred = barred + [frame_number(frame) for frame in world[3][at][1] + world[3][at][2]]
    free = [number for number in range(ring) if number not in barred]
    return free[0] if free else None


def free_number(world, name, side):
    """The least number that is free for the hand that gives to a side of the line with a name, or None."""
    check_world(world)
    check_name_in(world, name)
    check_side(side)
    return least_free(world, names_of(world).index(name), side)


def is_still(world):
    """Tell whether a world is at rest, it being known to be one."""
    return (
        all([line[1] == () and line[2] == () for line in world[3]])
        and all([client[1] == NO_BOOKS and client[2] == NO_BOOKS for client in world[1]])
        and all([session[2] == NO_BOOKS_OR_WORDS and session[3] == NO_BOOKS_OR_WORDS for session in world[2]])
    )


def is_at_rest(world):
    """Tell whether a world is at rest."""
    check_world(world)
    return is_still(world)


def heard_faults(world):
    faults = []
    due = world[4]
    for name, _, _, heard in world[1]:
        own = [word[1:] for word in due if word[0] == name]
        for topic, body in sorted(set(list(heard) + [word[1:] for word in own])):
            often = heard.count((topic, body))
            light = own.count(("light", topic, body))
            marked = own.count(("marked", topic, body))
            paired = own.count(("paired", topic, body))
            if often < paired + marked:
                faults.append(("heard", name, topic, body, "less"))
            if marked == 0 and often > paired + light:
                faults.append(("heard", name, topic, body, "more"))
    return faults


def owned_faults(world):
    faults = []
    _, given, owned = world[4:]
    for word in sorted(set(given + owned)):
        often = owned.count(word)
        if word[1] != "light" and often < given.count(word):
            faults.append(("owned",) + word + ("less",))
        if word[1] != "marked" and often > given.count(word):
            faults.append(("owned",) + word + ("more",))
    return faults


def all_faults(world):
    return sorted(heard_faults(world) + owned_faults(world))


def faults_of(world):
    """The ascending list of the faults of a world."""
    check_world(world)
    return all_faults(world)
