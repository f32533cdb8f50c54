"""Wishes beside one another."""

from heardonce.checks import is_row
from heardonce.errors import InvalidWishes
from heardonce.names import MOST_STEPS, check_wish, is_met, is_wish

LETTERS = "abcdefghijklmnopqrstuvwxyz"
MOST_WISHES = 12


def pattern(wish, many):
    """What a wish asks of each step of topics of so many steps, or None if it is met by none of them."""
    steps = wish.split("/")
    if steps[-1] != "#":
        return steps if len(steps) == many else None
    stem = steps[:-1]
    return stem + ["+"] * (many - len(stem)) if len(stem) <= many else None


def covers(wide, narrow):
    """Tell whether each topic that meets a pattern of as many steps meets the wide one, too."""
    return all([step in ("+", other) for step, other in zip(wide, narrow)])


def is_wider(wish, other):
    """Tell whether a wish is as wide as another one, both being known to be such."""
    for many in range(1, MOST_STEPS + 1):
        wide, narrow = pattern(wish, many), pattern(other, many)
        if narrow is not None and (wide is None or not covers(wide, narrow)):
            return False
    return True


def is_as_wide(wish, other):
    """Tell whether a wish is as wide as another one."""
    check_wish(wish)
    check_wish(other)
    return is_wider(wish, other)


def common_steps(steps, others):
    """The pattern of all that meets two patterns of as many steps, or None if nothing does."""
    common = []
    for step, other in zip(steps, others):
        if "+" not in (step, other) and step != other:
            return None
        common.append(other if step == "+" else step)
    return common


def common_of(wish, other):
    """A wish for just what meets both wishes, or None if nothing does, both being known to be such."""
    many, other_many = len(wish.split("/")), len(other.split("/"))
    end = []
    if wish[-1] == "#" and other[-1] == "#":
        many, end = max(many, other_many) - 1, ["#"]
    elif wish[-1] == "#":
        many = other_many
    steps, others = pattern(wish, many), pattern(other, many)
    if steps is None or others is None:
        return None
    common = common_steps(steps, others)
    return None if common is None else "/".join(common + end)


def common_wish(wish, other):
    """A wish for just what meets both wishes, or None if nothing does."""
    check_wish(wish)
    check_wish(other)
    return common_of(wish, other)


def fresh_name(wishes):
    """A name that stands in none of the wishes, of which there may be dozens, each with a few names."""
    used = {step: True for wish in wishes for step in wish.split("/")}
    for first in LETTERS:
        for second in LETTERS:
            if first + second not in used:
                return first + second
    return None


def topic_beyond(wish, others):
    """A topic that meets a wish and none of the others, or None if there is none, all being known to be wishes."""
    # What meets any name at a step meets one that nobody asks for by name.
    fresh = fresh_name(others)
    for many in range(1, MOST_STEPS + 1):
        steps = pattern(wish, many)
        if steps is not None:
            topic = "/".join([fresh if step == "+" else step for step in steps])
            if not any([is_met(topic, other) for other in others]):
                return topic
    return None


def topic_beside(wish, others):
    """A topic that meets a wish and none of the others, or None if there is none."""
    check_wish(wish)
    if not is_row(others, 0, MOST_WISHES, is_wish):
        raise InvalidWishes("not a tuple of wishes")
    return topic_beyond(wish, others)
