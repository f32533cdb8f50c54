"""The least room and the least keep with which nothing is lost."""

from heardonce.housesteps import session_of, stepped
from heardonce.sessionhouses import check_house, check_name, check_steps
from heardonce.worlds import MOST_WAITING

MOST_TRIED_KEEP = 60


def with_item(row, at, item):
    return row[:at] + (item,) + row[at + 1:]


def steps_with(steps, name, at, item):
    """The steps with an item of all terms of a name in them replaced."""
    return [
        step[:3] + (with_item(step[3], at, item),) if step[0] == "open" and step[1] == name else step
        for step in steps
    ]


def session_with(session, at, item):
    """A session with an item of its terms replaced; if it is not open, no more turns are left than its keep tells."""
    name, state, terms, wishes, waits = session
    terms = with_item(terms, at, item)
    state = state if state == "open" else min(state, terms[0])
    return name, state, terms, wishes, waits


def house_with(house, name, at, item):
    """The house with an item of the terms of a session replaced, if there is this session."""
    return house[0], tuple([
        session_with(session, at, item) if session[0] == name else session for session in house[1]
    ])


def done_steps(house, steps):
    """The list of the pairs of each step that can be done, and of what it tells, all others being left out."""
    done = []
    for step in steps:
        behind = stepped(house, step, ())
        if behind is not None:
            house, told = behind
            done.append((step, told))
    return done


def has_room(house, steps, name, room):
    """Tell whether with a room no word of a session name is dropped for room."""
    done = done_steps(house_with(house, name, 1, room), steps_with(steps, name, 1, room))
    return not any([one[:3] == ("dropped", name, "room") for _, told in done for one in told])


def least_room(house, steps, name):
    """The least room with which no word of a session name is dropped for room in steps, or None."""
    check_house(house)
    check_steps(steps)
    check_name(name)
    session = session_of(house, name)
    waiting = 0 if session is None else len(session[4])
    rooms = [room for room in range(max(1, waiting), MOST_WAITING + 1) if has_room(house, steps, name, room)]
    return rooms[0] if rooms else None


def lives_on(house, steps, name, keep):
    """Tell whether with a keep no session of a name ends by being left alone."""
    done = done_steps(house_with(house, name, 0, keep), steps_with(steps, name, 0, keep))
    # With a greater keep than 0 a session that ends by "open" does so only as a fresh one is asked for.
    return not any([
        ("ended", name) in told and (step[0] != "open" or keep == 0) for step, told in done
    ])


def least_keep(house, steps, name):
    """The least keep with which no session of a name ends in steps by being left alone, or None."""
    check_house(house)
    check_steps(steps)
    check_name(name)
    session = session_of(house, name)
    least = 0 if session is None or session[1] == "open" else 1
    keeps = [keep for keep in range(least, MOST_TRIED_KEEP + 1) if lives_on(house, steps, name, keep)]
    return keeps[0] if keeps else None
