"""Meshes: brokers that pass words on by bridges, and what is due to whom."""

from heardonce.checks import is_integer, is_rising
from heardonce.errors import InvalidBridges, InvalidMesh, InvalidMeshManner, InvalidNames
from heardonce.names import is_met, is_name, is_topic, is_wish

BOOKS = ("none", "last", "all")
BRIDGE_MARKS = ("kept", "anew", "skip")
MOST_BOOK = 8
MOST_BROKERS = 5
MOST_RECORDS = 60
MOST_NUMBER = 99
MOST_BRIDGES = 12


def is_mesh_manner(value):
    return (
        isinstance(value, tuple) and len(value) == 2 and (value[0] in BOOKS or is_integer(value[0], 1, MOST_BOOK))
        and value[1] in BRIDGE_MARKS
    )


def is_record(value, names, own):
    """Tell whether any value is a record in the log of an own name, in a mesh with these names."""
    return (
        isinstance(value, tuple) and len(value) == 4 and value[0] in names and is_integer(value[1], 0, MOST_NUMBER)
        and is_topic(value[2]) and (value[3] == "" or (value[3] in names and value[3] != own))
    )


def are_brokers(value):
    """Tell whether any value is the brokers of a mesh."""
    if not isinstance(value, tuple) or not 1 <= len(value) <= MOST_BROKERS:
        return False
    for pair in value:
        if not isinstance(pair, tuple) or len(pair) != 2 or not is_name(pair[0]):
            return False
        if not isinstance(pair[1], tuple) or len(pair[1]) > MOST_RECORDS:
            return False
    names = [name for name, _ in value]
    return is_rising(names) and all([is_record(record, names, name) for name, log in value for record in log])


def is_bridge_begun(value, many, names):
    """Tell whether any value is a tuple of so many items that begins like a bridge between these names."""
    return (
        isinstance(value, tuple) and len(value) == many and value[0] in names and value[1] in names
        and value[0] != value[1] and is_wish(value[2])
    )


def are_bridges(value, brokers):
    """Tell whether any value is bridges of a mesh with these brokers."""
    if not isinstance(value, tuple) or len(value) > MOST_BRIDGES:
        return False
    sizes = {name: len(log) for name, log in brokers}
    for bridge in value:
        if not is_bridge_begun(bridge, 5, list(sizes)):
            return False
        if not isinstance(bridge[3], bool) or not is_integer(bridge[4], 0, sizes[bridge[0]]):
            return False
    return is_rising([bridge[:2] for bridge in value])


def is_mesh(value):
    """Tell whether any value is a mesh."""
    return (
        isinstance(value, tuple) and len(value) == 3 and is_mesh_manner(value[0]) and are_brokers(value[1])
        and are_bridges(value[2], value[1])
    )


def check_mesh(mesh):
    if not is_mesh(mesh):
        raise InvalidMesh("not a mesh")


def check_broker(mesh, name):
    if name not in [broker for broker, _ in mesh[1]]:
        raise InvalidNames("not a broker of the mesh")


def are_fresh_bridges(value, names):
    """Tell whether any value is a tuple of the triples (one, other, wish) of bridges between these names."""
    return (
        isinstance(value, tuple) and len(value) <= MOST_BRIDGES
        and all([is_bridge_begun(bridge, 3, names) for bridge in value]) and is_rising([row[:2] for row in value])
    )


def fresh_mesh(manner, names, bridges):
    """The mesh of these names and bridges, in which nothing was told yet."""
    if not is_mesh_manner(manner):
        raise InvalidMeshManner("not a manner of meshes")
    if not isinstance(names, tuple) or not 1 <= len(names) <= MOST_BROKERS or not all([is_name(one) for one in names]):
        raise InvalidNames("not a tuple of names")
    if not is_rising(names):
        raise InvalidNames("not ascending names")
    if not are_fresh_bridges(bridges, names):
        raise InvalidBridges("not bridges")
    return manner, tuple([(name, ()) for name in names]), tuple([bridge + (True, 0) for bridge in bridges])


def words_had(mesh, name):
    """The list of the pairs (origin, number) of the records of a broker."""
    check_mesh(mesh)
    check_broker(mesh, name)
    return [record[:2] for broker, log in mesh[1] if broker == name for record in log]


def is_settled(mesh):
    """Tell whether a mesh is settled."""
    check_mesh(mesh)
    sizes = {name: len(log) for name, log in mesh[1]}
    return all([is_open and mark == sizes[one] for one, _, _, is_open, mark in mesh[2]])


def ways_of_topic(mesh, topic):
    """The dict of all brokers, and of the ascending lists of those to which bridges lead that the topic may cross."""
    ways = {name: [] for name, _ in mesh[1]}
    for one, other, wish, _, _ in mesh[2]:
        if is_met(topic, wish):
            ways[one].append(other)
    return ways


def reached_from(ways, name):
    """The list of all brokers to which paths lead from one.

    Whatever a path leads to, one without the same broker twice leads there, too, and so without turning back.
    """
    found = [name]
    at = 0
    while at < len(found):
        found += [other for other in ways[found[at]] if other not in found]
        at += 1
    return found


def faults_of_mesh(mesh):
    had = {name: [record[:2] for record in log] for name, log in mesh[1]}
    told = sorted(set([record[:3] for _, log in mesh[1] for record in log if record[3] == ""]))
    faults, ways = [], {}
    for origin, number, topic in told:
        if topic not in ways:
            ways[topic] = ways_of_topic(mesh, topic)
        word, reached = (origin, number), reached_from(ways[topic], origin)
        faults += [(name, origin, number, "less") for name in reached if word not in had[name]]
        faults += [(name, origin, number, "more") for name in had if had[name].count(word) > 1]
    return sorted(set(faults))


def mesh_faults(mesh):
    """The ascending list of the faults of a mesh."""
    check_mesh(mesh)
    return faults_of_mesh(mesh)
