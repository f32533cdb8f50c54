"""Diaries of memories, and what stops leave of the disk."""

from heardonce.checks import is_integer, is_row
from heardonce.errors import InvalidDiary, InvalidStop
from heardonce.frames import MOST_OCTETS
from heardonce.logchanges import are_changes, behind_changes, check_memory
from heardonce.logtracks import disk_told, octets_of_begin, octets_of_lot, track_told

MOST_ACTS = 40
PLAIN_ACTS = (("hold",), ("tell",), ("short",))


def is_diary_act(value):
    """Tell whether any value is an act of some diary."""
    if not isinstance(value, tuple) or not value:
        return False
    if value[0] == "change":
        return len(value) == 2 and are_changes(value[1])
    return value in PLAIN_ACTS


def first_place(memory):
    """What there is ahead of all acts.

    A place is a tuple (memory, tracks, held, at, turn, done, told): the memory, both tracks, how many octets of each
    are held, which of them is the open one, its turn, and how many steps are done, and told.
    """
    track = octets_of_begin(0, 0, memory)
    return memory, (track, ()), (len(track), 0), 0, 0, 0, 0


def with_track(tracks, at, track):
    return (track, tracks[1]) if at == 0 else (tracks[0], track)


def behind_change_act(place, changes):
    memory, tracks, held, at, turn, done, told = place
    memory = behind_changes(memory, changes)
    track = tracks[at] + octets_of_lot(changes)
    if memory is None or len(track) > MOST_OCTETS:
        return None
    return memory, with_track(tracks, at, track), held, at, turn, done + 1, told


def behind_short(place):
    memory, tracks, held, at, turn, done, told = place
    at = 1 - at
    track = octets_of_begin(turn + 1, done, memory)
    return memory, with_track(tracks, at, track), with_track(held, at, 0), at, turn + 1, done, told


def behind_act(place, act):
    """What there is behind an act, or None if no diary has it there."""
    memory, tracks, _, at, turn, done, told = place
    if act[0] == "change":
        return behind_change_act(place, act[1])
    if act[0] == "hold":
        return memory, tracks, (len(tracks[0]), len(tracks[1])), at, turn, done, told
    if act[0] == "tell":
        return place[:6] + (done,)
    return behind_short(place)


def places_told(memory, value):
    """The list of what there is ahead of all acts, and behind each, or None if a value is no diary of a memory."""
    if not is_row(value, 0, MOST_ACTS, is_diary_act):
        return None
    place = first_place(memory)
    places = [place]
    for act in value:
        place = behind_act(place, act)
        if place is None:
            return None
        places.append(place)
    return places


def places_of(memory, diary):
    """The list of what there is ahead of all acts, and behind each; it raises the errors of both arguments."""
    check_memory(memory)
    places = places_told(memory, diary)
    if places is None:
        raise InvalidDiary("not a diary of the memory")
    return places


def sure_at(place):
    """How many steps are sure at a place, or None."""
    _, tracks, held, at, _, _, _ = place
    # Of what is held of a track just the lots are read that are held whole.
    for here in (at, 1 - at):
        told = track_told(tracks[here][:held[here]])
        if told is not None:
            return told[1]
    return None


def is_diary(memory, value):
    """Tell whether any value is a diary of a memory."""
    check_memory(memory)
    return places_told(memory, value) is not None


def disk_of(memory, diary):
    """The disk behind a diary, with all that is written."""
    return places_of(memory, diary)[-1][1]


def held_of(memory, diary):
    """How many octets of both tracks are held behind a diary."""
    return places_of(memory, diary)[-1][2]


def sure_steps(memory, diary):
    """How many steps are sure behind a diary, or None."""
    return sure_at(places_of(memory, diary)[-1])


def told_steps(memory, diary):
    """How many steps are told behind a diary."""
    return places_of(memory, diary)[-1][6]


def is_stop(places, value):
    """Tell whether any value is a stop of the diary with these places."""
    if not isinstance(value, tuple) or len(value) != 3 or not is_integer(value[0], 0, len(places) - 1):
        return False
    _, tracks, held, _, _, _, _ = places[value[0]]
    return is_integer(value[1], held[0], len(tracks[0])) and is_integer(value[2], held[1], len(tracks[1]))


def check_stop(places, stop):
    if not is_stop(places, stop):
        raise InvalidStop("not a stop of the diary")


def disk_at(places, stop):
    at, first, second = stop
    tracks = places[at][1]
    return tracks[0][:first], tracks[1][:second]


def disk_kept(memory, diary, stop):
    """The disk that a stop of a diary leaves."""
    places = places_of(memory, diary)
    check_stop(places, stop)
    return disk_at(places, stop)


def is_harmful(memory, diary, stop):
    """Tell whether a stop of a diary is harmful."""
    places = places_of(memory, diary)
    check_stop(places, stop)
    told = disk_told(disk_at(places, stop))
    return told is None or told[0] < places[stop[0]][6]


def harm_of(memory, diary):
    """A harmful stop of a diary, or None if there is none."""
    for at, place in enumerate(places_of(memory, diary)):
        sure = sure_at(place)
        # No stop leaves less than one that keeps just what is held.
        if sure is None or sure < place[6]:
            return at, place[2][0], place[2][1]
    return None
