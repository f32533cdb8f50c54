"""The least room and the least keep with which nothing is lost."""

from heardonce.housesteps import MOST_SESSIONS, MOST_TURN, session_of, stepped
from heardonce.sessionhouses import check_house, check_name, check_steps
from heardonce.worlds import MOST_WAITING

MOST_TRIED_KEEP = 60
# More turns than there are in any steps.
UNENDING = 1000


def with_room(terms, room):
    keep, _, rule, last = terms
    return keep, room, rule, last


def steps_with_room(steps, name, room):
    """The steps with the room of all terms of a name in them replaced."""
    return [
        step[:3] + (with_room(step[3], room),) if step[0] == "open" and step[1] == name else step for step in steps
    ]


def house_with_room(house, name, room):
    """The house with the room of a session replaced, if there is this session."""
    return house[0], tuple([
        session[:2] + (with_room(session[2], room),) + session[3:] if session[0] == name else session
        for session in house[1]
    ])


def done_steps(house, steps):
    """The list of the pairs of each step that can be done, and of what it tells, all others being left out."""
    done = []
    for step in steps:
        behind = stepped(house, step, ())
        if behind is not None:
            house, told = behind
            done.append((step, told))
    return done


def has_room(house, steps, name, room):
    """Tell whether with a room no word of a session name is dropped for room."""
    done = done_steps(house_with_room(house, name, room), steps_with_room(steps, name, room))
    return not any([one[:3] == ("dropped", name, "room") for _, told in done for one in told])


def least_room(house, steps, name):
    """The least room with which no word of a session name is dropped for room in steps, or None."""
    check_house(house)
    check_steps(steps)
    check_name(name)
    session = session_of(house, name)
    least, most = max(1, 0 if session is None else len(session[4])), MOST_WAITING
    if not has_room(house, steps, name, most):
        return None
    # Where no word is dropped, all goes as with any greater room: what is enough once is enough from there on.
    while least < most:
        middle = (least + most) // 2
        if has_room(house, steps, name, middle):
            most = middle
        else:
            least = middle + 1
    return most


class Leavings:
    """Which sessions there are, and how long those of a name are left alone, if none of these ever ends by it.

    What waits, and what is wished, never tells whether a session goes on.
    """

    def __init__(self, house, name):
        self.name = name
        self.turn = house[0]
        self.left = {session[0]: session[1] for session in house[1]}
        self.keeps = {session[0]: session[2][0] for session in house[1]}
        self.alone = 0
        # The least keep with which this name goes on up to here.
        self.needed = 0 if self.is_open(name) or name not in self.left else 1

    def is_open(self, name):
        return self.left.get(name, 0) == "open"

    def leave(self, name):
        """Leave an open session alone."""
        if name == self.name:
            self.left[name], self.alone, self.needed = UNENDING, 0, max(1, self.needed)
        elif self.keeps[name] == 0:
            del self.left[name]
        else:
            self.left[name] = self.keeps[name]

    def begin(self, name, keep):
        """Open a session, if there is room for one."""
        if self.is_open(name):
            self.leave(name)
        if name in self.left or len(self.left) < MOST_SESSIONS:
            self.left[name], self.keeps[name] = "open", keep

    def turn_on(self):
        """Let a turn go by, if one more can."""
        if self.turn == MOST_TURN:
            return
        self.turn += 1
        names = [name for name in self.left if not self.is_open(name)]
        for name in names:
            self.left[name] -= 1
            if name == self.name:
                self.alone += 1
                self.needed = max(self.needed, self.alone + 1)
            if self.left[name] == 0:
                del self.left[name]
                # The few turns that were left to it in the house are over, whatever its keep is.
                self.needed = MOST_TRIED_KEEP + 1 if name == self.name else self.needed

    def pass_by(self, step):
        """Do a step, as far as it tells which sessions there are."""
        if step[0] == "open":
            self.begin(step[1], step[3][0])
        elif step[0] == "turn":
            self.turn_on()
        elif step[0] in ("shut", "break") and self.is_open(step[1]):
            self.leave(step[1])


def least_keep(house, steps, name):
    """The least keep with which no session of a name ends in steps by being left alone, or None."""
    check_house(house)
    check_steps(steps)
    check_name(name)
    leavings = Leavings(house, name)
    for step in steps:
        leavings.pass_by(step)
    return leavings.needed if leavings.needed <= MOST_TRIED_KEEP else None
