"""Parts of worlds, each told by its path: the indices that lead to it from the world on."""

DUE = (4,)
GIVEN = (5,)
OWNED = (6,)


def other_side(side):
    return "going" if side == "coming" else "coming"


def memory_path(at, side):
    """The path to the memory of the hand that gives to a side of the line with an index."""
    return (1, at, 1) if side == "coming" else (2, at, 2)


def giving_path(at, side):
    return memory_path(at, side) + (0,)


def taking_path(at, side):
    return memory_path(at, side) + (1,)


def waiting_path(at):
    return (2, at, 2, 2)


def heard_path(at):
    return (1, at, 3)


def wishes_path(at):
    return (2, at, 1)


def frames_path(at, side):
    return (3, at, 1 if side == "coming" else 2)


def part_of(whole, path):
    for at in path:
        whole = whole[at]
    return whole


def with_part(whole, path, part):
    """The whole, with another part at the end of a path."""
    if not path:
        return part
    at = path[0]
    return whole[:at] + (with_part(whole[at], path[1:], part),) + whole[at + 1:]


def with_more(whole, path, item):
    """The whole, with an item more behind all others in the part at the end of a path."""
    return with_part(whole, path, part_of(whole, path) + (item,))
