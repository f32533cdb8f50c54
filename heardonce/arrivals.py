"""What words do on their way: how they are given on lines, and what frames do where they arrive.

Each of these tells None where what would come of it is no world.
"""

from heardonce.names import greatest_way, is_met, lesser_way
from heardonce.parts import frames_at, memory_at, other_side, with_frames, with_heard, with_memory
from heardonce.worlds import MOST_FRAMES, MOST_ITEMS, MOST_WAITING, least_free


def given_on(world, at, side, word):
    """The world behind giving a word on a line, or None if it can't be given."""
    way, topic, body = word
    frames = frames_at(world, at, side)
    if len(frames) == MOST_FRAMES:
        return None
    if way == "light":
        return with_frames(world, at, side, frames + (("word", way, None, False, topic, body),))
    number = least_free(world, at, side)
    if number is None:
        return None
    memory = memory_at(world, at, side)
    book = tuple(sorted(memory[0] + ((number, way, "sent", topic, body),)))
    world = with_memory(world, at, side, (book,) + memory[1:])
    return with_frames(world, at, side, frames + (("word", way, number, False, topic, body),))


def way_due(session, word):
    """The way in which a word comes to a session, or None if it does not come."""
    way, topic, _ = word
    wanted = greatest_way([wished for wish, wished in session[1] if is_met(topic, wish)])
    return None if wanted is None else lesser_way(way, wanted)


def with_word_due(session, way, word):
    """The session in which a word waits in a way, too; the same one if there is no way."""
    if way is None:
        return session
    name, wishes, (giving, taking, waiting), log = session
    return name, wishes, (giving, taking, waiting + ((way,) + word[1:],)), log


def owned_word(world, at, word):
    """The world behind the broker's taking in a word from the client with an index, or None if it is none."""
    manner, clients, sessions, lines, due, given, owned = world
    ways = [way_due(session, word) for session in sessions]
    due = due + tuple([(session[0], way) + word[1:] for session, way in zip(sessions, ways) if way is not None])
    sessions = tuple([with_word_due(session, way, word) for session, way in zip(sessions, ways)])
    owned = owned + ((clients[at][0],) + word,)
    if len(due) > MOST_ITEMS or len(owned) > MOST_ITEMS:
        return None
    if any([len(session[2][2]) > MOST_WAITING for session in sessions]):
        return None
    return manner, clients, sessions, lines, due, given, owned


def taken_in(world, at, side, word):
    """The world behind the taking in of a word that came on a side of a line, or None if it is none."""
    if side == "coming":
        return owned_word(world, at, word)
    heard = world[1][at][3]
    return with_heard(world, at, heard + (word[1:],)) if len(heard) < MOST_ITEMS else None


def answered(world, at, side, frame):
    """The world in which a frame goes back for one that came on a side of a line, or None if it is none."""
    back = other_side(side)
    frames = frames_at(world, at, back)
    return with_frames(world, at, back, frames + (frame,)) if len(frames) < MOST_FRAMES else None


def word_arrived(world, at, side, frame):
    _, way, number, _, topic, body = frame
    back = other_side(side)
    memory = memory_at(world, at, back)
    if way != "paired" or number not in memory[1]:
        world = taken_in(world, at, side, (way, topic, body))
        if world is None:
            return None
    if way == "light":
        return world
    if way == "paired" and number not in memory[1]:
        # Taking in may have changed what else is in this memory.
        memory = memory_at(world, at, back)
        world = with_memory(world, at, back, memory[:1] + (tuple(sorted(memory[1] + (number,))),) + memory[2:])
    return answered(world, at, side, ("heard" if way == "marked" else "taken", number))


def without_entry(world, at, side, key):
    """The world without the entry of a hand that begins like this, if there is one."""
    memory = memory_at(world, at, side)
    book = tuple([entry for entry in memory[0] if entry[:3] != key])
    return world if len(book) == len(memory[0]) else with_memory(world, at, side, (book,) + memory[1:])


def taken_arrived(world, at, side, number):
    back = other_side(side)
    if world[0][2] and number in [frame[2] for frame in frames_at(world, at, back) if frame[0] == "word"]:
        return world
    memory = memory_at(world, at, back)
    book = tuple([
        (number, "paired", "let") + entry[3:] if entry[:2] == (number, "paired") else entry for entry in memory[0]
    ])
    return answered(with_memory(world, at, back, (book,) + memory[1:]), at, side, ("let", number))


def let_arrived(world, at, side, number):
    back = other_side(side)
    memory = memory_at(world, at, back)
    taking = tuple([held for held in memory[1] if held != number])
    return answered(with_memory(world, at, back, memory[:1] + (taking,) + memory[2:]), at, side, ("done", number))


def arrived(world, at, side):
    """The world behind the arrival of the first frame on a side of a line, or None if that can't happen."""
    frames = frames_at(world, at, side)
    if not frames:
        return None
    frame = frames[0]
    world = with_frames(world, at, side, frames[1:])
    if frame[0] == "word":
        return word_arrived(world, at, side, frame)
    if frame[0] == "heard":
        return without_entry(world, at, other_side(side), (frame[1], "marked", "sent"))
    if frame[0] == "taken":
        return taken_arrived(world, at, side, frame[1])
    if frame[0] == "let":
        return let_arrived(world, at, side, frame[1])
    return without_entry(world, at, other_side(side), (frame[1], "paired", "let"))
