"""All topics over a few names, and what wishes are met by, as lots of bits."""

from functools import lru_cache
from itertools import product

from tests.model import meets

# Two names, and one that stands for all others.
TOPICS = tuple("/".join(steps) for many in range(1, 6) for steps in product(("a", "b", "z"), repeat=many))


@lru_cache(maxsize=None)
def bits(wish):
    """The topics that meet a wish, by the bits of an integer."""
    return sum(1 << at for at, topic in enumerate(TOPICS) if meets(topic, wish))


def all_wishes(steps, names=("a", "b")):
    """All wishes of up to so many steps over two names."""
    wishes = ["#"]
    for many in range(1, steps + 1):
        for row in product(names + ("+",), repeat=many):
            wishes.append("/".join(row))
            if many < steps:
                wishes.append("/".join(row) + "/#")
    return wishes


def some_wish(dice):
    steps = [dice.choice(("a", "b", "+")) for _ in range(dice.randrange(1, 6))]
    if dice.randrange(2):
        steps[-1] = "#"
    return "/".join(steps)


def some_short_wish(dice):
    steps = [dice.choice(("a", "b", "+")) for _ in range(dice.randrange(1, 4))]
    if dice.randrange(2):
        steps[-1] = "#"
    return "/".join(steps)


def some_lot(dice, most, make=some_wish):
    pairs = {make(dice): dice.choice(("light", "marked", "paired")) for _ in range(dice.randrange(most + 1))}
    return tuple(sorted(pairs.items()))
