"""What words do on their way: how they are given on lines, and what frames do where they arrive."""

from heardonce.names import greatest_way, is_met, lesser_way
from heardonce.parts import (
    DUE, OWNED, frames_path, giving_path, heard_path, other_side, part_of, taking_path, waiting_path, with_more,
    with_part,
)
from heardonce.worlds import frame_number, least_free


def without_entry(book, number, way, state):
    """A giving book without the entry of a number, if that has this way and state."""
    return tuple(entry for entry in book if entry[:3] != (number, way, state))


def given_on(world, at, side, word):
    """The world behind giving a word on a line, or None if no number is free that is needed."""
    way, topic, body = word
    if way == "light":
        return with_more(world, frames_path(at, side), ("word", way, None, False, topic, body))
    number = least_free(world, at, side)
    if number is None:
        return None
    book = part_of(world, giving_path(at, side)) + ((number, way, "sent", topic, body),)
    world = with_part(world, giving_path(at, side), tuple(sorted(book)))
    return with_more(world, frames_path(at, side), ("word", way, number, False, topic, body))


def way_for(session, topic):
    """The greatest way of the wishes of a session that a topic meets, None if it meets none."""
    return greatest_way([way for wish, way in session[1] if is_met(topic, wish)])


def owned_word(world, at, word):
    """The world behind the broker's taking in a word from the client with an index."""
    way, topic, body = word
    sessions = world[2]
    world = with_more(world, OWNED, (world[1][at][0], way, topic, body))
    for index, session in enumerate(sessions):
        wanted = way_for(session, topic)
        if wanted is not None:
            due = (lesser_way(way, wanted), topic, body)
            world = with_more(world, DUE, (session[0],) + due)
            world = with_more(world, waiting_path(index), due)
    return world


def taken_in(world, at, side, word):
    """The world behind the taking in of a word that came on a side of a line."""
    if side == "coming":
        return owned_word(world, at, word)
    return with_more(world, heard_path(at), word[1:])


def word_arrived(world, at, side, frame):
    _, way, number, _, topic, body = frame
    back = other_side(side)
    taking = part_of(world, taking_path(at, back))
    if way != "paired" or number not in taking:
        world = taken_in(world, at, side, (way, topic, body))
    if way == "paired" and number not in taking:
        world = with_part(world, taking_path(at, back), tuple(sorted(taking + (number,))))
    if way == "light":
        return world
    return with_more(world, frames_path(at, back), ("heard" if way == "marked" else "taken", number))


def heard_arrived(world, at, side, number):
    path = giving_path(at, other_side(side))
    return with_part(world, path, without_entry(part_of(world, path), number, "marked", "sent"))


def taken_arrived(world, at, side, number):
    back = other_side(side)
    ahead = [frame_number(frame) for frame in part_of(world, frames_path(at, back)) if frame[0] == "word"]
    if world[0][2] and number in ahead:
        return world
    book = tuple(
        entry[:2] + ("let",) + entry[3:] if entry[:2] == (number, "paired") else entry
        for entry in part_of(world, giving_path(at, back))
    )
    return with_more(with_part(world, giving_path(at, back), book), frames_path(at, back), ("let", number))


def let_arrived(world, at, side, number):
    back = other_side(side)
    taking = tuple(held for held in part_of(world, taking_path(at, back)) if held != number)
    return with_more(with_part(world, taking_path(at, back), taking), frames_path(at, back), ("done", number))


def done_arrived(world, at, side, number):
    path = giving_path(at, other_side(side))
    return with_part(world, path, without_entry(part_of(world, path), number, "paired", "let"))


def arrived(world, at, side):
    """The world behind the arrival of the first frame on a side of a line, or None if there is none."""
    frames = part_of(world, frames_path(at, side))
    if not frames:
        return None
    frame = frames[0]
    world = with_part(world, frames_path(at, side), frames[1:])
    if frame[0] == "word":
        return word_arrived(world, at, side, frame)
    if frame[0] == "heard":
        return heard_arrived(world, at, side, frame[1])
    if frame[0] == "taken":
        return taken_arrived(world, at, side, frame[1])
    if frame[0] == "let":
        return let_arrived(world, at, side, frame[1])
    return done_arrived(world, at, side, frame[1])
