"""Runs of crossings in meshes: those by which a mesh is settled, and those by which a broker has a word twice."""

from heardonce.checks import is_integer
from heardonce.doublings import doubling_events, is_doubled
from heardonce.errors import InvalidNumber, TooMany
from heardonce.meshes import check_mesh
from heardonce.meshevents import after_cross, after_event, is_mesh_event

MOST_CROSSINGS = 200
MOST_DOUBLING = 6


def check_most(most):
    if not is_integer(most, 0, MOST_CROSSINGS):
        raise InvalidNumber("not a number of crossings")


def first_crossed(mesh):
    """The mesh behind the first crossing that can happen, or None if none can."""
    for bridge in mesh[2]:
        after = after_cross(mesh, bridge)
        if after is not None:
            return after
    return None


def settled_by(mesh, most):
    """The pair of the mesh behind crossings until none can happen, and of how many there were; None if too many."""
    check_mesh(mesh)
    check_most(most)
    for many in range(most + 1):
        after = first_crossed(mesh)
        if after is None:
            return mesh, many
        mesh = after
    return None


def doubling_run(mesh, most):
    """A shortest tuple of crossings, of at most so many, behind which some broker has some word twice, or None."""
    check_mesh(mesh)
    check_most(most)
    if most > MOST_DOUBLING:
        raise TooMany(MOST_DOUBLING)
    return doubling_events(mesh, most)


def mesh_crossed(mesh, value):
    """The mesh behind any value, taken for a tuple of crossings, or None if it is none that can happen."""
    if not isinstance(value, tuple) or len(value) > MOST_DOUBLING:
        return None
    for event in value:
        if not is_mesh_event(event) or event[0] != "cross":
            return None
        mesh = after_event(mesh, event)
        if mesh is None:
            return None
    return mesh


def is_doubling_run(mesh, value):
    """Tell whether any value is a shortest tuple of crossings, of at most 6, by which a word is there twice."""
    check_mesh(mesh)
    behind = mesh_crossed(mesh, value)
    if behind is None or not is_doubled(behind):
        return False
    return value == () or doubling_events(mesh, len(value) - 1) is None
