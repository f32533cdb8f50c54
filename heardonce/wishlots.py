"""Lots of wishes, and lots that tell the same."""

from heardonce.errors import InvalidLot
from heardonce.names import MOST_STEPS, check_topic, greatest_way, is_met, is_way_up_to
from heardonce.wishes import covers, pattern, topic_beyond
from heardonce.worlds import are_wish_pairs

MOST_PAIRS = 12


def is_lot(value):
    """Tell whether any value is a lot."""
    return are_wish_pairs(value, MOST_PAIRS)


def check_lot(lot):
    if not is_lot(lot):
        raise InvalidLot("not a lot")


def way_of_topic(lot, topic):
    return greatest_way([way for wish, way in lot if is_met(topic, wish)])


def way_in(lot, topic):
    """The way of a topic in a lot."""
    check_lot(lot)
    check_topic(topic)
    return way_of_topic(lot, topic)


def topic_above(lot, other_lot):
    """A topic with a greater way in a lot than in another one, or None if there is none."""
    for wish, way in lot:
        topic = topic_beyond(wish, [other for other, told in other_lot if is_way_up_to(way, told)])
        if topic is not None:
            return topic
    return None


def topic_apart(lot, other_lot):
    """A topic that has not the same way in both lots, or None if there is none, both being known to be such."""
    topic = topic_above(lot, other_lot)
    return topic_above(other_lot, lot) if topic is None else topic


def topic_between(lot, other_lot):
    """A topic that has not the same way in both lots, or None if they tell the same."""
    check_lot(lot)
    check_lot(other_lot)
    return topic_apart(lot, other_lot)


def idle_wishes(lot):
    """The ascending list of the pairs of a lot each of which can be left out by itself."""
    check_lot(lot)
    return [pair for pair in lot if topic_above([pair], [other for other in lot if other != pair]) is None]


def told_patterns(lot, many):
    """The list of the pairs (pattern, way) that a lot tells of topics of so many steps, each once."""
    told = []
    for wish, way in lot:
        steps = pattern(wish, many)
        if steps is not None and (steps, way) not in told:
            told.append((steps, way))
    return told


def is_told(told, steps, way):
    """Tell whether one of some pairs (pattern, way) tells a pattern in a way, or in a greater one."""
    return any([covers(wide, steps) and is_way_up_to(way, greater) for wide, greater in told])


def needed_patterns(told):
    """Those of some pairs (pattern, way) that are not told by any other one of them."""
    return [pair for pair in told if not is_told([other for other in told if other != pair], pair[0], pair[1])]


def stem_of(steps):
    """The steps of a pattern without each "+" at its end."""
    many = len(steps)
    while many and steps[many - 1] == "+":
        many -= 1
    return tuple(steps[:many])


def needed_numbers(lot):
    """For each pair (stem, way) the numbers of steps at which each lot that tells the same must tell it."""
    needed = {}
    for many in range(1, MOST_STEPS + 1):
        for steps, way in needed_patterns(told_patterns(lot, many)):
            needed.setdefault((stem_of(steps), way), []).append(many)
    return needed


def padded(stem, many):
    """The steps of the pattern of a stem, at a number of steps."""
    return list(stem) + ["+"] * (many - len(stem))


def told_from(lot, stem, way):
    """The least number of steps from which on a lot tells a stem in a way, or a greater one, at each number."""
    many = MOST_STEPS + 1
    while many > max(1, len(stem)) and is_told(told_patterns(lot, many - 1), padded(stem, many - 1), way):
        many -= 1
    return many


def wishes_for(lot, stem, way, numbers):
    """The fewest wishes that tell a stem in a way at these numbers of steps, and nothing that the lot doesn't."""
    start = told_from(lot, stem, way)
    alone = [many for many in numbers if many < start]
    tail = [many for many in numbers if many >= start]
    if len(tail) == 1:
        alone, tail = alone + tail, []
    wishes = ["/".join(padded(stem, many)) for many in alone]
    if tail:
        # All topics have one step at least, so "#" alone serves as well as "+/#".
        many = 0 if tail[0] == 1 and not stem else tail[0]
        wishes.append("/".join(padded(stem, many) + ["#"]))
    return wishes


def fewest_wishes(lot):
    """A lot of as few wishes as can be that tells the same."""
    check_lot(lot)
    fewest = []
    needed = needed_numbers(lot)
    for (stem, way), numbers in needed.items():
        fewest += [(wish, way) for wish in wishes_for(lot, stem, way, numbers)]
    return tuple(sorted(fewest))
