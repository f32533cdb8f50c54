"""Runs of steps of houses, and what becomes of the words that come in them."""

from heardonce.sessionhouses import check_house, check_name, check_steps, stepped_right

FATES = ("handed", "room", "end", "waits")


def course_of(house, steps):
    """The list of the pairs of the house behind each step, and of what this tells."""
    course = []
    for step in steps:
        house, told = stepped_right(house, step, ())
        course.append((house, told))
    return course


def house_course(house, steps):
    """The list of a house, and of the houses behind each step."""
    check_house(house)
    check_steps(steps)
    return [house] + [behind for behind, _ in course_of(house, steps)]


def told_in(house, steps):
    """The list of what each step tells."""
    check_house(house)
    check_steps(steps)
    return [told for _, told in course_of(house, steps)]


def fates_told(told, index):
    """The fates of the words that came in steps, by what one step tells."""
    fates = []
    for word, name, *items in told:
        # By "dropped" the reason stands ahead of the word itself.
        fate = items[0] if word == "dropped" else word
        coming = items[1:] if word == "dropped" else items
        if word in ("dropped", "handed") and len(coming) == 5:
            _, way, topic, body, came = coming
            fates.append((came, name, way, topic, body, fate, index))
    return fates


def all_fates(house, steps):
    """The list of the fates of all words that come in steps, in the order in which they come."""
    fates = []
    for index, step in enumerate(steps):
        house, told = stepped_right(house, step, (index,))
        fates += fates_told(told, index)
    left = [("handed", session[0]) + word for session in house[1] for word in session[4]]
    waiting = [fate[:5] + ("waits", len(steps)) for fate in fates_told(left, len(steps))]
    # By one step at most one word comes to a session, and the sessions have it in the order of their names.
    return sorted(fates + waiting, key=lambda fate: fate[:2])


def fates_of(house, steps):
    """The list of the tuples (index, name, way, topic, body, fate, index) of all words that come in steps."""
    check_house(house)
    check_steps(steps)
    return all_fates(house, steps)


def fate_counts(house, steps, name):
    """How many of the words of a session are handed out, dropped for room, dropped at an end, and wait."""
    check_house(house)
    check_steps(steps)
    check_name(name)
    fates = [fate[5] for fate in all_fates(house, steps) if fate[1] == name]
    handed, room, end, waits = [fates.count(fate) for fate in FATES]
    return handed, room, end, waits
