"""Frames, and their octets."""

from heardonce.checks import is_integer, is_row
from heardonce.errors import InvalidFrame, InvalidOctets
from heardonce.names import MOST_LETTERS, MOST_STEPS, WAYS, is_body, is_name, is_topic, is_way, is_wish

# What the items of each frame are, in the order of the kinds of octets; a
# "mark" is the number of a word, which may be None.
ITEMS_OF = {
    "hello": ("name", "bool"),
    "welcome": ("bool",),
    "wish": ("number", "wish", "way"),
    "wished": ("number",),
    "unwish": ("number", "wish"),
    "unwished": ("number",),
    "word": ("way", "mark", "bool", "topic", "body"),
    "heard": ("number",),
    "taken": ("number",),
    "let": ("number",),
    "done": ("number",),
    "bye": (),
}
WORDS = ("hello", "welcome", "wish", "wished", "unwish", "unwished", "word", "heard", "taken", "let", "done", "bye")
TEXTS = ("name", "topic", "wish")
SIGNS = "#+/abcdefghijklmnopqrstuvwxyz"
NO_NUMBER = 8
MOST_OCTETS = 1000


def is_number(value):
    return is_integer(value, 0, 7)


def is_item(sort, value):
    """Tell whether any value is an item of a sort."""
    if sort == "bool":
        return isinstance(value, bool)
    if sort == "mark":
        return value is None or is_number(value)
    if sort == "number":
        return is_number(value)
    if sort == "body":
        return is_body(value)
    if sort == "way":
        return is_way(value)
    return is_text(sort, value)


def is_text(sort, value):
    if sort == "name":
        return is_name(value)
    return is_topic(value) if sort == "topic" else is_wish(value)


def is_frame(value):
    """Tell whether any value is a frame."""
    if not isinstance(value, tuple) or not value or not isinstance(value[0], str) or value[0] not in ITEMS_OF:
        return False
    sorts = ITEMS_OF[value[0]]
    if len(value) != 1 + len(sorts) or not all([is_item(sort, item) for sort, item in zip(sorts, value[1:])]):
        return False
    return value[0] != "word" or has_right_mark(value)


def has_right_mark(word):
    """Tell whether a word has a number just if its way asks for one."""
    way, number, again = word[1:4]
    if way == "light":
        return number is None and not again
    return number is not None


def check_frame(frame):
    if not is_frame(frame):
        raise InvalidFrame("not a frame")


def is_octet(value):
    return is_integer(value, 0, 255)


def check_octets(octets):
    if not is_row(octets, 0, MOST_OCTETS, is_octet):
        raise InvalidOctets(0)


def item_octets(sort, item):
    """The octets of an item, as a tuple."""
    if sort in TEXTS:
        return (len(item),) + tuple(ord(sign) for sign in item)
    if sort == "body":
        return divmod(item, 256)
    if sort == "way":
        return (WAYS.index(item),)
    return (NO_NUMBER if item is None else int(item),)


def frame_octets(frame):
    """The octets of a frame."""
    check_frame(frame)
    octets = ()
    for sort, item in zip(ITEMS_OF[frame[0]], frame[1:]):
        octets += item_octets(sort, item)
    return (1 + WORDS.index(frame[0]), len(octets)) + octets


def signs_left(word, many):
    """How many signs the text of a frame with so many octets has, None if no such frame has so many octets."""
    most = 0
    for sort in ITEMS_OF[word]:
        many -= 2 if sort == "body" else 1
        if sort in TEXTS:
            most = MOST_LETTERS if sort == "name" else MOST_STEPS * (MOST_LETTERS + 1) - 1
    return many if min(1, most) <= many <= most else None


def sign_of(octet):
    for sign in SIGNS:
        if ord(sign) == octet:
            return sign
    return None


def can_go_on(sort, begun, left):
    """Tell whether some text of a sort begins like this, its steps being right, and has just so many signs more."""
    *done, last = begun.split("/")
    steps_left = (1 if sort == "name" else MOST_STEPS) - 1 - len(done)
    least, most = 0, 0
    if last == "#":
        steps_left = min(0, steps_left)
    elif last == "":
        least, most = 1, MOST_LETTERS
    elif last != "+":
        most = MOST_LETTERS - len(last)
    # Each step more takes a "/", and one letter to six of them.
    return any([
        least + 2 * more <= left <= most + (MOST_LETTERS + 1) * more for more in range(steps_left + 1)
    ])


def is_begun_right(sort, begun):
    """Tell whether all steps of the begin of a text, but for how many they are, may be those of a sort."""
    *done, last = begun.split("/")
    if not all([step == "+" or is_name(step) for step in done]):
        return False
    if sort != "wish" and ("+" in begun or "#" in begun):
        return False
    return last in ("", "+", "#") or is_name(last)


def text_at(octets, at, sort, many):
    """The text of so many signs at an index, and the index behind it, or None if the octets end too early."""
    if at == len(octets):
        return None
    if octets[at] != many:
        raise InvalidOctets(at)
    text = ""
    for here in range(at + 1, at + 1 + many):
        if here == len(octets):
            return None
        sign = sign_of(octets[here])
        if sign is None:
            raise InvalidOctets(here)
        text += sign
        if not is_begun_right(sort, text) or not can_go_on(sort, text, many - len(text)):
            raise InvalidOctets(here)
    return text, at + 1 + many


def body_at(octets, at):
    """The body at an index, and the index behind it, or None if the octets end too early."""
    if at == len(octets):
        return None
    if not is_body(256 * octets[at]):
        raise InvalidOctets(at)
    if at + 1 == len(octets):
        return None
    body = 256 * octets[at] + octets[at + 1]
    if not is_body(body):
        raise InvalidOctets(at + 1)
    return body, at + 2


def told_by(sort, octet, is_light):
    """The tuple of the one value that an octet tells, the empty one if it tells none."""
    if sort == "way":
        return WAYS[octet:octet + 1]
    if sort == "bool":
        bools = (False,) if is_light else (False, True)
        return bools[octet:octet + 1]
    if is_light:
        return (None,) if octet == NO_NUMBER else ()
    return (octet,) if is_number(octet) else ()


def item_at(octets, at, sort, many, is_light):
    """The item at an index, and the index behind it, or None if the octets end too early."""
    if sort in TEXTS:
        return text_at(octets, at, sort, many)
    if sort == "body":
        return body_at(octets, at)
    if at == len(octets):
        return None
    told = told_by(sort, octets[at], is_light)
    if not told:
        raise InvalidOctets(at)
    return told[0], at + 1


def frame_at(octets, at):
    """The frame at an index, and the index behind it, or None if the octets end too early."""
    if at == len(octets):
        return None
    if not 1 <= octets[at] <= len(WORDS):
        raise InvalidOctets(at)
    if at + 1 == len(octets):
        return None
    word = WORDS[octets[at] - 1]
    many = signs_left(word, octets[at + 1])
    if many is None:
        raise InvalidOctets(at + 1)
    frame, behind = (word,), at + 2
    for sort in ITEMS_OF[word]:
        read = item_at(octets, behind, sort, many, frame[:2] == ("word", "light"))
        if read is None:
            return None
        item, behind = read
        frame += (item,)
    return frame, behind


def read_frame(octets):
    """The first frame in some octets, and how many it takes, or None if they end too early."""
    check_octets(octets)
    return frame_at(octets, 0)


def all_frames(octets):
    frames, at = [], 0
    read = frame_at(octets, at)
    while read is not None:
        frame, at = read
        frames.append(frame)
        read = frame_at(octets, at)
    return frames, octets[at:]


def read_all(octets):
    """The list of all frames in some octets, and the octets left over behind them."""
    check_octets(octets)
    return all_frames(octets)


def joined(pieces):
    """What `read_all` tells of pieces of octets, set one behind the other."""
    if not isinstance(pieces, tuple) or len(pieces) > 100:
        raise InvalidOctets(0)
    octets = ()
    for piece in pieces:
        check_octets(piece)
        octets += piece
    check_octets(octets)
    return all_frames(octets)
