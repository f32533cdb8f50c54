"""Worlds calmed, and what goes wrong in manners that are not ahead and careful."""

from heardonce.allruns import check_sign
from heardonce.errors import InvalidManner
from heardonce.events import behind, events_with
from heardonce.worlds import check_world, empty_world, is_manner

MOST_CALM = 200
CALM_WORDS = ("arrive", "pass", "again")
NAMES = ("ann",)
FIRST = ("give", "ann", "paired", "a", 0)
SECOND = ("give", "ann", "paired", "b", 1)
COMING = ("arrive", "ann", "coming")
GOING = ("arrive", "ann", "going")


def calm_way(world):
    """The pair of the next event by which a world is calmed, and of the world behind it, or None if there is none."""
    for word in CALM_WORDS:
        for event in sorted(events_with(world, (word,))):
            after = behind(world, event)
            if after is not None:
                return event, after
    return None


def calmed(world):
    """A world calmed, and the tuple of the events done."""
    check_world(world)
    events, way = (), calm_way(world)
    while way is not None and len(events) < MOST_CALM:
        event, world = way
        events += (event,)
        way = calm_way(world)
    return world, events


def stuck_run():
    """The harm, the plan and the run by which the only frame is lost, while nothing may go anew."""
    return (1, 0, 0, 0, 0, 0), (FIRST,), (FIRST, ("lose", "ann", "coming", 0))


def less_if_not_ahead():
    """The client forgets what it gave, and its word is gone, too."""
    return (0, 0, 0, 0, 0, 1), (FIRST,), (FIRST, ("stop", "ann"))


def more_if_not_ahead():
    """The broker forgets that it holds the number, so the word that goes anew is taken in again."""
    run = (FIRST, COMING, ("stop", ""), ("again", "ann", "coming", 0), COMING)
    return (0, 0, 0, 1, 0, 1), (FIRST,), run


def less_if_not_careful():
    """A copy of the first word's "taken" is taken for that of the second word, which is lost."""
    run = (
        FIRST, COMING, ("double", "ann", "going", 0), GOING, COMING, ("turn", "ann", "going", 0), GOING,
        SECOND, GOING, ("lose", "ann", "coming", 0), COMING, GOING,
    )
    return (1, 1, 1, 0, 0, 0), (FIRST, SECOND), run


def more_if_not_careful():
    """A copy of the word comes behind the "let" that frees its number."""
    run = (FIRST, ("double", "ann", "coming", 0), COMING, GOING, ("turn", "ann", "coming", 0), COMING, COMING)
    return (0, 1, 1, 0, 0, 0), (FIRST,), run


def bad_example(manner, sign):
    """The harm, the plan and the run of a witness, or None if there is none.

    None of the runs asks for two numbers at a time, so they are the same for each ring.
    """
    _, ahead, careful = manner
    if sign == "stuck":
        return stuck_run()
    if not ahead:
        return less_if_not_ahead() if sign == "less" else more_if_not_ahead()
    if not careful:
        return less_if_not_careful() if sign == "less" else more_if_not_careful()
    return None


def witness(manner, sign):
    """A state with a fresh world in a manner, and a bad run for a sign, or None if there is none."""
    if not is_manner(manner):
        raise InvalidManner("not a manner")
    check_sign(sign)
    example = bad_example(manner, sign)
    if example is None:
        return None
    harm, plan, run = example
    return (empty_world(manner, NAMES), harm, plan), run
