"""Tales as values."""

from heardonce.checks import is_integer
from heardonce.errors import InvalidNumber
from heardonce.events import behind, is_event
from heardonce.lifetales import led_calm, told_back, with_events, world_after, world_of
from heardonce.lifetexts import read_tale, text_of_tale
from heardonce.worlds import all_faults, is_still


class Story:
    """A tale as a value."""

    def __init__(self, tale):
        self._world = world_of(tale)
        self._tale = tale

    @classmethod
    def read(cls, value):
        """The story whose text a value is."""
        return cls(read_tale(value))

    @property
    def tale(self):
        """The tale."""
        return self._tale

    @property
    def world(self):
        """The world of the tale."""
        return self._world

    @property
    def rest(self):
        """Whether the world is at rest."""
        return is_still(self._world)

    @property
    def faults(self):
        """The tuple of the faults of the world."""
        return tuple(all_faults(self._world))

    def __add__(self, other):
        """The story with an event more."""
        world_after(self._world, other)
        return Story(with_events(self._tale, (other,)))

    def __iadd__(self, other):
        """The story itself, with an event more from now on."""
        world = world_after(self._world, other)
        self._tale = with_events(self._tale, (other,))
        self._world = world
        return self

    def __lshift__(self, other):
        """The story without its last events, so many."""
        return Story(told_back(self._tale, other))

    def __rshift__(self, other):
        """The story with calm events behind it, at most so many."""
        return Story(led_calm(self._tale, other))

    def __getitem__(self, at):
        if not is_integer(at, 0, len(self._tale[2]) - 1):
            raise InvalidNumber("not the index of an event")
        return self._tale[2][at]

    def __iter__(self):
        raise TypeError("a story is not iterated over")

    def __contains__(self, x):
        return is_event(x) and behind(self._world, x) is not None

    def __len__(self):
        return len(self._tale[2])

    def __bool__(self):
        return not all_faults(self._world)

    def __str__(self):
        return str(text_of_tale(self._tale))

    def __eq__(self, other):
        return isinstance(other, Story) and self._tale == other._tale
