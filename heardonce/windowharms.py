"""Sizes of windows that are sound, and harms for those that are not."""

from heardonce.windows import FIRST_STATE, behind_event, check_sizes, is_window_event

MOST_HARM_EVENTS = 100
GIVE = ("give",)
WORD = ("word",)
ANSWER = ("answer",)


def are_wide_enough(sizes):
    """Tell whether both windows find room in the ring."""
    ring, giving, taking, _ = sizes
    return giving + taking <= ring


def can_not_harm(sizes):
    return not sizes[3] and are_wide_enough(sizes)


def are_sound(sizes):
    """Tell whether windows are sound."""
    check_sizes(sizes)
    return can_not_harm(sizes)


def harm_of_narrow(sizes):
    """A harm for windows that are together greater than the ring: an old word goes anew behind a whole window."""
    ring, giving, _, _ = sizes
    return (GIVE,) * giving + (WORD,) * giving + (("again", max(0, giving - ring)), WORD)


def harm_of_turned(sizes):
    """A harm where frames are turned about: a copy of the first word is overtaken until its rest comes again."""
    first_round = (GIVE, ("double", "there", 0), WORD, ANSWER)
    next_round = (GIVE, ("turn", "there", 0), WORD, ANSWER)
    return first_round + next_round * (sizes[0] - 1) + (WORD,)


def window_harm(sizes):
    """A harm for sizes of windows, or None if they are sound."""
    check_sizes(sizes)
    if can_not_harm(sizes):
        return None
    return harm_of_turned(sizes) if are_wide_enough(sizes) else harm_of_narrow(sizes)


def is_harm(sizes, value):
    """Tell whether any value is a harm for sizes of windows."""
    check_sizes(sizes)
    if not isinstance(value, tuple) or len(value) > MOST_HARM_EVENTS:
        return False
    state = FIRST_STATE
    for event in value:
        state = behind_event(sizes, state, event) if is_window_event(event) else None
        if state is None:
            return False
    return state[6]
