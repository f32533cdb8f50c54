"""Names, topics, wishes, bodies and ways."""

from heardonce.checks import is_integer
from heardonce.errors import InvalidTopic, InvalidWay, InvalidWish

MOST_LETTERS = 6
MOST_STEPS = 5
# The lesser ways stand first.
WAYS = ("light", "marked", "paired")


def is_name(value):
    if not isinstance(value, str) or not 1 <= len(value) <= MOST_LETTERS:
        return False
    return value.isascii() and value.isalpha() and value.islower()


def is_topic(value):
    """Tell whether any value is a topic."""
    if not isinstance(value, str):
        return False
    steps = value.split("/")
    return len(steps) <= MOST_STEPS and all([is_name(step) for step in steps])


def is_wish(value):
    """Tell whether any value is a wish."""
    if not isinstance(value, str):
        return False
    steps = value.split("/")
    if len(steps) > MOST_STEPS:
        return False
    if steps[-1] == "#":
        steps = steps[:-1]
    return all([step == "+" or is_name(step) for step in steps])


def is_body(value):
    return is_integer(value, 0, 999)


def is_way(value):
    return isinstance(value, str) and value in WAYS


def check_topic(topic):
    if not is_topic(topic):
        raise InvalidTopic("not a topic")


def check_wish(wish):
    if not is_wish(wish):
        raise InvalidWish("not a wish")


def check_way(way):
    if not is_way(way):
        raise InvalidWay("not a way")


def is_met(topic, wish):
    """Tell whether a topic meets a wish, both being known to be such."""
    if wish in ("#", topic):
        return True
    steps, wanted = topic.split("/"), wish.split("/")
    if wanted[-1] == "#":
        wanted = wanted[:-1]
        steps = steps[:len(wanted)]
    return len(steps) == len(wanted) and all([want in ("+", step) for want, step in zip(wanted, steps)])


def meets(topic, wish):
    """Tell whether a topic meets a wish."""
    check_topic(topic)
    check_wish(wish)
    return is_met(topic, wish)


def is_way_up_to(way, other):
    """Tell whether a way is the other one, or a lesser one."""
    return WAYS.index(way) <= WAYS.index(other)


def lesser_way(one, other):
    """The lesser one of two ways."""
    check_way(one)
    check_way(other)
    return one if is_way_up_to(one, other) else other


def greatest_way(ways):
    """The greatest one of a list of ways, or None of an empty one."""
    found = [way for way in ("paired", "marked", "light") if way in ways]
    return found[0] if found else None
