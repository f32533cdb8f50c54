"""Events and tales as texts."""

from heardonce.errors import InvalidText
from heardonce.events import ITEMS_OF, check_event, is_event
from heardonce.lifetales import is_tale, world_of

NUMBERS = ("body", "index", "number")
MOST_DIGITS = 3
ANSWERS = ("no", "yes")


def text_of_item(item):
    return "-" if item == "" else str(item)


def text_of_event(event):
    return " ".join([text_of_item(item) for item in event])


def event_text(event):
    """An event as text."""
    check_event(event)
    return text_of_event(event)


def text_of_tale(tale):
    (ring, ahead, careful), names, events = tale
    head = " ".join([str(ring), ANSWERS[int(ahead)], ANSWERS[int(careful)], *names])
    return "\n".join([head, *[text_of_event(event) for event in events]])


def tale_text(tale):
    """A tale as text."""
    world_of(tale)
    return text_of_tale(tale)


def number_of(text):
    """The number that a text tells, or None if it tells none that is small enough."""
    return int(text) if len(text) <= MOST_DIGITS and text.isascii() and text.isdigit() else None


def item_of(sort, text):
    """What an item of a sort may be that has a text; None if it is none for sure."""
    if sort in NUMBERS:
        return number_of(text)
    return "" if text == "-" else text


def event_of(text):
    """The event whose text a string is, or None if it is none."""
    word, *items = text.split(" ")
    sorts = ITEMS_OF.get(word, None)
    if sorts is None or len(sorts) != len(items):
        return None
    event = (word,) + tuple([item_of(sort, item) for sort, item in zip(sorts, items)])
    return event if is_event(event) and text_of_event(event) == text else None


def read_event(value):
    """The event whose text a value is."""
    event = event_of(value) if isinstance(value, str) else None
    if event is None:
        raise InvalidText("not the text of an event")
    return event


def tale_of(text):
    """The tale whose text a string is, or None if it is none."""
    head, *rows = text.split("\n")
    words = head.split(" ")
    if len(words) < 3 or words[1] not in ANSWERS or words[2] not in ANSWERS:
        return None
    manner = (number_of(words[0]), words[1] == "yes", words[2] == "yes")
    tale = (manner, tuple(words[3:]), tuple([event_of(row) for row in rows]))
    return tale if is_tale(tale) and text_of_tale(tale) == text else None


def read_tale(value):
    """The tale whose text a value is."""
    tale = tale_of(value) if isinstance(value, str) else None
    if tale is None:
        raise InvalidText("not the text of a tale")
    return tale
