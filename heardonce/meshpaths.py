"""Paths of topics in meshes, and rings.

A place is here a pair (ahead, broker) of the last two brokers of a path, "" standing ahead of its first one: how a
path may go on is told by these.
"""

from heardonce.meshes import check_broker, check_mesh, reached_from, ways_of_topic
from heardonce.names import check_topic


def brokers_reached(mesh, topic, name):
    """The ascending list of all brokers to which a path of a topic leads from a broker."""
    check_mesh(mesh)
    check_topic(topic)
    check_broker(mesh, name)
    return sorted(reached_from(ways_of_topic(mesh, topic), name))


def places_from(ways, name):
    """The dict of all places that paths from a broker come to, and of the lists of those next to each."""
    nexts, places = {}, [("", name)]
    while places:
        ahead, here = places.pop()
        if (ahead, here) not in nexts:
            nexts[ahead, here] = [(here, other) for other in ways[here] if other != ahead]
            places += nexts[ahead, here]
    return nexts


def leading_to(nexts, other):
    """The dict of those places from which a path may lead to a broker, itself perhaps, with those next to each."""
    leading = {place: True for place in nexts if place[1] == other}
    found = list(leading)
    while found:
        found = [
            place for place in nexts if place not in leading and any([after in leading for after in nexts[place]])
        ]
        for place in found:
            leading[place] = True
    return {place: [after for after in nexts[place] if after in leading] for place in leading}


def ways_to(nexts, other):
    """The dict of places, and of how many ways lead from each to a broker; those from which they have no end miss."""
    many, found = {}, list(nexts)
    while found:
        # A place is counted when all next to it are, so those on a round are never counted.
        found = [
            place for place in nexts if place not in many and all([after in many for after in nexts[place]])
        ]
        for place in found:
            many[place] = (1 if place[1] == other else 0) + sum([many[after] for after in nexts[place]])
    return many


def paths_between(mesh, topic, name, other):
    """How many paths of a topic lead from a broker to another one or to itself, None if they have no end."""
    check_mesh(mesh)
    check_topic(topic)
    check_broker(mesh, name)
    check_broker(mesh, other)
    nexts = leading_to(places_from(ways_of_topic(mesh, topic), name), other)
    return ways_to(nexts, other).get(("", name), None) if ("", name) in nexts else 0


def rings_from(ways, path):
    """The list of all rings that begin with a path of unlike brokers, its first one being the least."""
    rings = [path] if len(path) > 2 and path[0] in ways[path[-1]] else []
    for other in ways[path[-1]]:
        if other > path[0] and other not in path:
            rings += rings_from(ways, path + (other,))
    return rings


def rings_of_topic(mesh, topic):
    """The ascending list of all rings of a topic."""
    check_mesh(mesh)
    check_topic(topic)
    ways = ways_of_topic(mesh, topic)
    return sorted([ring for name in ways for ring in rings_from(ways, (name,))])


def comes_to_rest(mesh, topic, name):
    """Tell whether all paths of a topic from a broker come to an end."""
    check_mesh(mesh)
    check_topic(topic)
    check_broker(mesh, name)
    nexts = places_from(ways_of_topic(mesh, topic), name)
    return ("", name) in ways_to(nexts, name)
