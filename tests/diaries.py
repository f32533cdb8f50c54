"""A second telling of diaries and their stops, by objects that change."""

from tests.memories import Impossible, begin, behind, lot, read, some_changes


class Track:
    """Octets, each with whether it is held, and the ends of the begin and of the lots."""

    def __init__(self):
        self.clear()

    def clear(self):
        self.octets, self.held, self.ends, self.first_steps = [], 0, [], None

    def write(self, octets):
        self.octets += octets
        self.ends.append(len(self.octets))

    def steps_held(self):
        """The steps that the track holds, None if it does not hold its begin."""
        if not self.ends or self.held < self.ends[0]:
            return None
        return self.first_steps + sum(end <= self.held for end in self.ends[1:])


class Diary:
    def __init__(self, memory):
        self.memories, self.turn, self.told = [memory], 0, 0
        self.track, self.other = Track(), Track()
        self.tracks = (self.track, self.other)
        self.track.write(begin(0, 0, memory))
        self.track.first_steps = 0
        self.do_hold()

    def do(self, act):
        getattr(self, "do_" + act[0])(*act[1:])
        if max(len(track.octets) for track in self.tracks) > 1000:
            raise Impossible

    def do_change(self, changes):
        self.memories.append(behind(self.memories[-1], changes))
        self.track.write(lot(changes))

    def do_hold(self):
        for track in self.tracks:
            track.held = len(track.octets)

    def do_tell(self):
        self.told = len(self.memories) - 1

    def do_short(self):
        self.track, self.other = self.other, self.track
        self.turn += 1
        self.track.clear()
        self.track.write(begin(self.turn, len(self.memories) - 1, self.memories[-1]))
        self.track.first_steps = len(self.memories) - 1

    def disk(self):
        return tuple(tuple(track.octets) for track in self.tracks)

    def held(self):
        return tuple(track.held for track in self.tracks)

    def sure(self):
        steps = self.track.steps_held()
        return self.other.steps_held() if steps is None else steps

    def stops(self):
        """All pairs of how many octets both tracks may keep."""
        first, second = self.tracks
        return [
            (one, other) for one in range(first.held, len(first.octets) + 1)
            for other in range(second.held, len(second.octets) + 1)
        ]

    def kept(self, one, other):
        first, second = self.disk()
        return first[:one], second[:other]

    def is_harmful(self, one, other):
        found = [told for told in map(read, self.kept(one, other)) if told]
        return not found or max(found, key=lambda told: told[0])[1] < self.told


def diaries(memory, acts):
    """The diary ahead of all acts, and behind each, each a new one."""
    found = []
    for many in range(len(acts) + 1):
        diary = Diary(memory)
        for act in acts[:many]:
            diary.do(act)
        found.append(diary)
    return found


def some_diary(dice, memory, most):
    acts, here = [], memory
    for _ in range(dice.randrange(most + 1)):
        word = dice.choice(("change", "change", "hold", "tell", "short"))
        if word == "change":
            changes = some_changes(dice, here, 3)
            here = behind(here, changes)
            acts.append((word, changes))
        else:
            acts.append((word,))
    return tuple(acts)
