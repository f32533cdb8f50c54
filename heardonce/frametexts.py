"""Frames as texts."""

from heardonce.errors import InvalidText
from heardonce.frames import ITEMS_OF, check_frame, is_frame


def item_text(item):
    if item is None:
        return "-"
    if isinstance(item, bool):
        return "yes" if item else "no"
    return str(item)


def text_of(frame):
    return " ".join([frame[0]] + [item_text(item) for item in frame[1:]])


def frame_text(frame):
    """The text of a frame."""
    check_frame(frame)
    return text_of(frame)


def number_of(text):
    """The number that a few digits tell, or the text itself if it is something else."""
    return int(text) if text.isascii() and text.isdigit() and len(text) <= 3 else text


def item_of(sort, text):
    """What a text tells as an item of a sort; a text that tells none may come back as it is."""
    if sort == "bool":
        return text == "yes"
    if sort == "mark" and text == "-":
        return None
    if sort in ("mark", "number", "body"):
        return number_of(text)
    return text


def read_text(value):
    """The frame whose text a value is."""
    if not isinstance(value, str):
        raise InvalidText("not a string")
    word, *texts = value.split(" ")
    if word not in ITEMS_OF or len(texts) != len(ITEMS_OF[word]):
        raise InvalidText("not the words of a frame")
    frame = (word,) + tuple(item_of(sort, text) for sort, text in zip(ITEMS_OF[word], texts))
    # Leading zeros, and other words than "yes" and "no", show only in the text.
    if not is_frame(frame) or text_of(frame) != value:
        raise InvalidText("not the text of a frame")
    return frame
