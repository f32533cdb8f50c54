"""Parts of worlds, and worlds with other parts.

A hand is told by the index of its line, and by the side to which it gives: a client to the side "coming", the broker
to the side "going", by its session with this client.
"""


def other_side(side):
    return "going" if side == "coming" else "coming"


def with_item(row, at, item):
    """A tuple with another item at an index."""
    return row[:at] + (item,) + row[at + 1:]


def frames_at(world, at, side):
    return world[3][at][1 if side == "coming" else 2]


def memory_at(world, at, side):
    return world[1][at][1] if side == "coming" else world[2][at][2]


def with_frames(world, at, side, frames):
    """The world with other frames on a side of a line."""
    manner, clients, sessions, lines, due, given, owned = world
    name, coming, going = lines[at]
    line = (name, frames, going) if side == "coming" else (name, coming, frames)
    return manner, clients, sessions, with_item(lines, at, line), due, given, owned


def with_memory(world, at, side, memory):
    """The world with another memory of a hand."""
    manner, clients, sessions, lines, due, given, owned = world
    if side == "coming":
        name, _, log, heard = clients[at]
        return manner, with_item(clients, at, (name, memory, log, heard)), sessions, lines, due, given, owned
    name, wishes, _, log = sessions[at]
    return manner, clients, with_item(sessions, at, (name, wishes, memory, log)), lines, due, given, owned


def with_wishes(world, at, wishes):
    """The world with other wishes of a session."""
    manner, clients, sessions, lines, due, given, owned = world
    name, _, memory, log = sessions[at]
    return manner, clients, with_item(sessions, at, (name, wishes, memory, log)), lines, due, given, owned


def with_heard(world, at, heard):
    """The world in which a client has heard other words."""
    manner, clients, sessions, lines, due, given, owned = world
    name, memory, log, _ = clients[at]
    return manner, with_item(clients, at, (name, memory, log, heard)), sessions, lines, due, given, owned


def with_log_written(world, at, side):
    """The world in which the log of a hand has become its memory."""
    manner, clients, sessions, lines, due, given, owned = world
    if side == "coming":
        name, memory, _, heard = clients[at]
        return manner, with_item(clients, at, (name, memory, memory, heard)), sessions, lines, due, given, owned
    name, wishes, memory, _ = sessions[at]
    return manner, clients, with_item(sessions, at, (name, wishes, memory, memory)), lines, due, given, owned


def with_stop(world, at, side):
    """The world in which the memory of a hand has become its log, and its line has lost all frames."""
    log = world[1][at][2] if side == "coming" else world[2][at][3]
    manner, clients, sessions, lines, due, given, owned = with_memory(world, at, side, log)
    return manner, clients, sessions, with_item(lines, at, (lines[at][0], (), ())), due, given, owned
