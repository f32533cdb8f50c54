"""Any values, and small changes of values, for tests of wrong inputs."""

from heardonce.errors import HeardError, InvalidOctets, TooMany
from heardonce.lifebenches import Bench
from heardonce.lifevalues import Story

TALE = ((1, True, True), ("a",), ())


def deep(depth):
    value = ()
    for _ in range(depth):
        value = (value,)
    return value


# None of these is an argument of any function of the package that is not told to take any value.
ODD_VALUES = (
    None, True, False, -1, 10 ** 119, -(10 ** 119), "\n", "a b", "A", "a//b", "x" * 1000, [], [0], ["a"], ((),),
    (None,), (0, 0), (True,), [()], ("", ""), deep(29), ([],) * 1000, HeardError("a"), InvalidOctets(0), TooMany(12),
    (HeardError("a"),), ("give", [], {}.get(0)), (("give",), []), Story(TALE), (Story(TALE),), Bench(TALE),
    (Bench(TALE), 0),
)


def paths_of(value, path=()):
    """All paths to parts of a value of nested tuples, the path to itself among them."""
    found = [path]
    if isinstance(value, tuple):
        for at, item in enumerate(value):
            found += paths_of(item, path + (at,))
    return found


def part_at(value, path):
    for at in path:
        value = value[at]
    return value


def replaced(value, path, part):
    if not path:
        return part
    at = path[0]
    return value[:at] + (replaced(value[at], path[1:], part),) + value[at + 1:]


def other_kinds(part):
    """Values of other kinds than a part has, none of which may stand in its place."""
    if isinstance(part, tuple):
        return [list(part), None, 0, "a", True, part + ([],), HeardError("a")]
    if isinstance(part, bool):
        return [int(part), str(part), (part,), "yes", 2]
    if isinstance(part, int):
        return [bool(part), str(part), (part,), [part], -1, None, 10 ** 100]
    if isinstance(part, str):
        return [(part,), [part], 0, True, part + " ", part + "\n", part.upper() + "A", part + "/", " " + part, None]
    return [0, False, "", "None", ()]


def bent(value):
    """All changes of a value at one place into something of another kind."""
    return [
        replaced(value, path, other) for path in paths_of(value) for other in other_kinds(part_at(value, path))
    ]
