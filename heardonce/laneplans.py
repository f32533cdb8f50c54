"""Lane plans: which topics meet which lanes, and where letters go that grow old."""

from heardonce.checks import is_integer, is_rising, is_row
from heardonce.errors import InvalidLane, InvalidPlan
from heardonce.names import check_topic, is_met, is_name, is_wish

MOST_LANES = 6
MOST_LANE_WISHES = 4
MOST_LETTERS = 12
MOST_LIFE = 20
MOST_TRIES = 5


def is_lane(value):
    """Tell whether any value is a lane of some plan."""
    if not isinstance(value, tuple) or len(value) != 6:
        return False
    name, wishes, most, life, dead, tries = value
    return (
        is_name(name) and is_row(wishes, 0, MOST_LANE_WISHES, is_wish) and is_rising(wishes)
        and is_integer(most, 1, MOST_LETTERS) and (life is None or is_integer(life, 1, MOST_LIFE))
        and (dead is None or is_name(dead)) and is_integer(tries, 1, MOST_TRIES)
    )


def is_lane_plan(value):
    """Tell whether any value is a lane plan."""
    if not is_row(value, 1, MOST_LANES, is_lane):
        return False
    names = [lane[0] for lane in value]
    return is_rising(names) and all([lane[4] is None or lane[4] in names for lane in value])


def check_plan(plan):
    if not is_lane_plan(plan):
        raise InvalidPlan("not a lane plan")


def check_lane_in(plan, lane):
    if lane not in [one[0] for one in plan]:
        raise InvalidLane("not the name of a lane")


def lanes_of_topic(plan, topic):
    """The list of the names of all lanes that a topic meets, in the order of the plan."""
    return [lane[0] for lane in plan if any([is_met(topic, wish) for wish in lane[1]])]


def lanes_met(plan, topic):
    """The ascending list of the names of all lanes that a topic meets."""
    check_plan(plan)
    check_topic(topic)
    return lanes_of_topic(plan, topic)


def ring_from(deads, name):
    """The ring of lanes by `dead` that leads from a name back to it, or None if there is none."""
    ring, here = (name,), deads[name]
    while here is not None and here not in ring:
        ring += (here,)
        here = deads[here]
    return ring if here == name else None


def dead_rings(plan):
    """The ascending list of all rings of lanes by `dead`, each beginning with its least name."""
    check_plan(plan)
    deads = {lane[0]: lane[4] for lane in plan}
    rings = [ring_from(deads, name) for name in deads]
    return sorted([ring for ring in rings if ring is not None and ring[0] == min(ring)])


def old_way(plan, lane):
    """Where and when a letter is laid that lies alone and only grows old, and what comes of it at last."""
    check_plan(plan)
    check_lane_in(plan, lane)
    lives, deads = {one[0]: one[3] for one in plan}, {one[0]: one[4] for one in plan}
    layings, died, turn = [(lane, 0)], [], 0
    while lives[lane] is not None:
        turn += lives[lane]
        # A second death there, or one without another lane to go to, is the last one.
        if lane in died or deads[lane] is None:
            return layings, ("gone", turn)
        died.append(lane)
        lane = deads[lane]
        layings.append((lane, turn))
    return layings, ("lies", lane)
