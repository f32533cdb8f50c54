"""Events in meshes, and the meshes behind them."""

from heardonce.errors import CannotHappen, InvalidMeshEvent
from heardonce.meshes import MOST_RECORDS, check_mesh
from heardonce.names import is_met, is_name, is_topic

MOST_EVENTS = 200
BRIDGE_WORDS = ("cross", "part", "meet")


def is_mesh_event(value):
    """Tell whether any value is a mesh event."""
    if not isinstance(value, tuple) or len(value) != 3 or not is_name(value[1]):
        return False
    if value[0] == "tell":
        return is_topic(value[2])
    return value[0] in BRIDGE_WORDS and is_name(value[2])


def check_mesh_event(mesh_event):
    if not is_mesh_event(mesh_event):
        raise InvalidMeshEvent("not a mesh event")


def log_of(mesh, name):
    """The log of a broker, None if there is no such one."""
    logs = [log for broker, log in mesh[1] if broker == name]
    return logs[0] if logs else None


def with_record(mesh, name, record):
    """The mesh with a record more at the end of a broker's log, or None if that is full."""
    if len(log_of(mesh, name)) == MOST_RECORDS:
        return None
    brokers = tuple([(broker, log + (record,)) if broker == name else (broker, log) for broker, log in mesh[1]])
    return mesh[0], brokers, mesh[2]


def is_barred(book, log, word):
    """Tell whether a mesh book bars a word (origin, number) from a log."""
    if book == "none":
        return False
    if book == "last":
        return any([record[0] == word[0] and record[1] >= word[1] for record in log])
    return word in [record[:2] for record in (log if book == "all" else log[-book:])]


def after_tell(mesh, name, topic):
    log = log_of(mesh, name)
    if log is None:
        return None
    number = len([record for record in log if record[3] == ""])
    return with_record(mesh, name, (name, number, topic, ""))


def with_bridge(mesh, bridge):
    """The mesh with a bridge in the place of the one with the same names."""
    return mesh[0], mesh[1], tuple([bridge if old[:2] == bridge[:2] else old for old in mesh[2]])


def after_cross(mesh, bridge):
    one, other, wish, is_open, mark = bridge
    log = log_of(mesh, one)
    if not is_open or mark == len(log):
        return None
    origin, number, topic, giver = log[mark]
    mesh = with_bridge(mesh, (one, other, wish, True, mark + 1))
    if giver == other or not is_met(topic, wish) or is_barred(mesh[0][0], log_of(mesh, other), (origin, number)):
        return mesh
    return with_record(mesh, other, (origin, number, topic, one))


def after_meet(mesh, bridge):
    one, other, wish, is_open, mark = bridge
    if is_open:
        return None
    if mesh[0][1] == "anew":
        mark = 0
    elif mesh[0][1] == "skip":
        mark = len(log_of(mesh, one))
    return with_bridge(mesh, (one, other, wish, True, mark))


def after_event(mesh, mesh_event):
    """The mesh behind an event, or None if it can't happen, both being known to be such."""
    word, one, other = mesh_event
    if word == "tell":
        return after_tell(mesh, one, other)
    bridges = [bridge for bridge in mesh[2] if bridge[:2] == (one, other)]
    if not bridges:
        return None
    if word == "cross":
        return after_cross(mesh, bridges[0])
    if word == "meet":
        return after_meet(mesh, bridges[0])
    return with_bridge(mesh, bridges[0][:3] + (False,) + bridges[0][4:]) if bridges[0][3] else None


def can_in_mesh(mesh, mesh_event):
    """Tell whether a mesh event can happen."""
    check_mesh(mesh)
    check_mesh_event(mesh_event)
    return after_event(mesh, mesh_event) is not None


def after_events(mesh, mesh_events):
    for mesh_event in mesh_events:
        mesh = after_event(mesh, mesh_event)
        if mesh is None:
            raise CannotHappen("a mesh event can't happen")
    return mesh


def mesh_after(mesh, mesh_event):
    """The mesh behind an event."""
    check_mesh(mesh)
    check_mesh_event(mesh_event)
    return after_events(mesh, (mesh_event,))


def mesh_after_all(mesh, mesh_events):
    """The mesh behind some events, one after another."""
    check_mesh(mesh)
    if not isinstance(mesh_events, tuple) or len(mesh_events) > MOST_EVENTS:
        raise InvalidMeshEvent("not a tuple of mesh events")
    for mesh_event in mesh_events:
        check_mesh_event(mesh_event)
    return after_events(mesh, mesh_events)


def crossings(mesh):
    """The ascending list of all events "cross" that can happen."""
    check_mesh(mesh)
    return [("cross",) + bridge[:2] for bridge in mesh[2] if after_cross(mesh, bridge) is not None]
