"""Cards: what there is of one number, in one way, on one side of a line."""

from heardonce.checks import is_integer
from heardonce.errors import CannotHappen, InvalidCard

MOST_FRAMES = 12
CARD_WAYS = ("marked", "paired")
STATES = ("none", "sent", "let")
# In the order in which a card tells how many of them there are.
KINDS = ("words", "answers", "lets", "dones")


def is_card(value):
    """Tell whether any value is a card."""
    return (
        isinstance(value, tuple) and len(value) == 7 and value[0] in CARD_WAYS and value[1] in STATES
        and isinstance(value[2], bool) and all([is_integer(many, 0, MOST_FRAMES) for many in value[3:]])
    )


def check_card(card):
    if not is_card(card):
        raise InvalidCard("not a card")


def empty_card(way):
    return way, "none", False, 0, 0, 0, 0


def can_be(card):
    """Tell whether a card is possible, it being known to be one."""
    way, state, held, words, answers, lets, dones = card
    if way == "marked":
        return state != "let" and not held and lets == dones == 0
    if state == "sent":
        return lets == dones == 0 and (held or answers == 0)
    if state == "let":
        return words == 0 and (not held or dones == 0)
    return words == 0 and not held


def is_possible(card):
    """Tell whether a card is possible."""
    check_card(card)
    return can_be(card)


def with_change(card, kind, change):
    """The card with so many more of a kind of frames, or None if it is no card then."""
    at = 3 + KINDS.index(kind)
    many = card[at] + change
    return card[:at] + (many,) + card[at + 1:] if 0 <= many <= MOST_FRAMES else None


def behind_given(card):
    if card[1] != "none" or sum(card[3:]) != 0:
        return None
    return with_change(card[:1] + ("sent",) + card[2:], "words", 1)


def behind_again(card):
    if card[1] == "none":
        return None
    return with_change(card, "words" if card[1] == "sent" else "lets", 1)


def behind_answer(card):
    """The card behind an answer that has been taken from the line."""
    way, state, held, *many = card
    if way == "marked":
        return (way, "none" if state == "sent" else state, held, *many)
    if many[0] > 0:
        return card
    return with_change((way, "let" if state == "sent" else state, held, *many), "lets", 1)


def behind_arrival(card, kind):
    """The card behind the arrival of a frame, or None if it can't happen."""
    card = with_change(card, kind, -1)
    if card is None:
        return None
    if kind == "words":
        held = card[0] == "paired" or card[2]
        return with_change(card[:2] + (held,) + card[3:], "answers", 1)
    if kind == "answers":
        return behind_answer(card)
    if kind == "lets":
        return with_change(card[:2] + (False,) + card[3:], "dones", 1)
    return card[:1] + ("none" if card[1] == "let" else card[1],) + card[2:]


def behind_double(card, kind):
    return with_change(card, kind, 1) if card[3 + KINDS.index(kind)] > 0 else None


def behind_deed(card, deed):
    """The card behind a card event, or None if it can't happen."""
    if deed[0] == "give":
        return behind_given(card)
    if deed[0] == "again":
        return behind_again(card)
    if deed[0] == "lose":
        return with_change(card, deed[1], -1)
    if deed[0] == "double":
        return behind_double(card, deed[1])
    return behind_arrival(card, deed[1])


def possible_deeds(card):
    """The ascending list of all card events that can happen."""
    deeds = [("give",), ("again",)] + [(word, kind) for word in ("lose", "double", "arrive") for kind in KINDS]
    return sorted([deed for deed in deeds if behind_deed(card, deed) is not None])


def card_events(card):
    """The ascending list of all card events that can happen."""
    check_card(card)
    return possible_deeds(card)


def card_behind(card, deed):
    """The card behind a card event."""
    check_card(card)
    if deed not in possible_deeds(card):
        raise CannotHappen("not a card event that can happen")
    return behind_deed(card, deed)
