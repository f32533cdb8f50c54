"""Benches: tales that are told on, taken back and tried."""

from heardonce.errors import NothingToRedo, NothingToUndo
from heardonce.events import MOST_EVENTS, after_all, behind, check_events, is_event
from heardonce.lifetales import is_harm_event, with_events, world_after, world_of
from heardonce.lifetexts import text_of_event
from heardonce.worlds import all_faults, is_still


class Bench:
    """A tale that changes, call by call.

    For each call that can be taken back, and for each that can be done again, the tale and the world are kept that were
    there ahead of it, or behind it.
    """

    def __init__(self, tale):
        self._world = world_of(tale)
        self._tale = tale
        self._done = ()
        self._undone = ()

    @property
    def tale(self):
        """The tale."""
        return self._tale

    @property
    def world(self):
        """The world of the tale."""
        return self._world

    @property
    def faults(self):
        """The tuple of the faults of the world."""
        return tuple(all_faults(self._world))

    def _tell_on(self, events, world):
        """Tell events on, behind which the world is known, as one call."""
        tale = with_events(self._tale, events)
        self._done = self._done + ((self._tale, self._world),)
        self._undone = ()
        self._tale, self._world = tale, world

    def do(self, event):
        """Tell an event on, and tell whether the world is another one then."""
        ahead = self._world
        self._tell_on((event,), world_after(ahead, event))
        return self._world != ahead

    def __iadd__(self, other):
        """The bench itself, with some events told on as one call."""
        check_events(other, MOST_EVENTS)
        self._tell_on(other, after_all(self._world, other))
        return self

    def undo(self):
        """Take back the last call that is not taken back yet."""
        if not self._done:
            raise NothingToUndo("no call can be taken back")
        self._undone = self._undone + ((self._tale, self._world),)
        self._tale, self._world = self._done[-1]
        self._done = self._done[:-1]

    def redo(self):
        """Do the last call again that was taken back."""
        if not self._undone:
            raise NothingToRedo("no call can be done again")
        self._done = self._done + ((self._tale, self._world),)
        self._tale, self._world = self._undone[-1]
        self._undone = self._undone[:-1]

    def attempt(self, action):
        """Call a function with the bench, and return what it returns; if it ends with an error, all is as it was."""
        tale, world, done, undone = self._tale, self._world, self._done, self._undone
        is_over = None
        try:
            told = action(self)
            is_over = True
            return told
        finally:
            if is_over is None:
                self._tale = tale
                self._world = world
                self._done = done
                self._undone = undone

    def lines(self):
        """The texts of all events of the tale, a star behind those with harm."""
        for event in self._tale[2]:
            yield text_of_event(event) + ("*" if is_harm_event(event) else "")

    def __contains__(self, x):
        return is_event(x) and behind(self._world, x) is not None

    def __len__(self):
        return len(self._done)

    def __bool__(self):
        return bool(is_still(self._world))

    def __eq__(self, other):
        return isinstance(other, Bench) and self._tale == other._tale
