"""Events of pools, and the pools behind them."""

from heardonce.checks import is_integer
from heardonce.errors import CannotHappen, InvalidEvent, InvalidEvents
from heardonce.names import is_name, is_topic
from heardonce.pools import (
    MOST_COUNT, MOST_CREDIT, MOST_LOTS, MOST_READERS, MOST_WORDS, are_apart, check_pool, is_reader, reader_told,
)

MOST_POOL_EVENTS = 100


def are_topics(value, least, most):
    return isinstance(value, tuple) and least <= len(value) <= most and all([is_topic(topic) for topic in value])


def is_pool_event(value):
    """Tell whether any value is a pool event."""
    if not isinstance(value, tuple) or len(value) < 2:
        return False
    if value[0] == "come":
        return len(value) == 2 and are_topics(value[1], 1, MOST_WORDS)
    if value[0] == "done":
        return len(value) == 3 and is_name(value[1]) and is_integer(value[2], 0, MOST_COUNT)
    if value[0] == "credit":
        return len(value) == 3 and is_name(value[1]) and is_integer(value[2], 0, MOST_CREDIT)
    if value[0] == "in":
        return is_reader(value[1:])
    return value[0] == "out" and len(value) == 2 and is_name(value[1])


def check_pool_event(pool_event):
    if not is_pool_event(pool_event):
        raise InvalidEvent("not a pool event")


def check_pool_events(pool_events):
    if not isinstance(pool_events, tuple) or len(pool_events) > MOST_POOL_EVENTS:
        raise InvalidEvents("not a tuple of pool events")
    if not all([is_pool_event(pool_event) for pool_event in pool_events]):
        raise InvalidEvents("not pool events")


def with_reader(readers, reader):
    """Readers with another one in the place of that with its name, if there is such a one."""
    others = [other for other in readers if other[0] != reader[0]]
    return tuple(sorted(others + [reader]))


def behind_come(pool, event):
    rule, readers, waiting, count, last = pool
    lot = tuple([(count + at, topic) for at, topic in enumerate(event[1])])
    return rule, readers, waiting + (lot,), count + len(lot), last


def behind_in(pool, event):
    rule, readers, waiting, count, last = pool
    if event[1] in [reader[0] for reader in readers]:
        return None
    return rule, with_reader(readers, event[1:] + (0, ())), waiting, count, last


def behind_out(pool, reader):
    rule, readers, waiting, count, last = pool
    words = tuple([(word,) for word in sorted(reader[5])])
    return rule, tuple([other for other in readers if other != reader]), words + waiting, count, last


def behind_own(pool, event):
    """The pool behind an event of a reader that must be there, ahead of what is told then; None if it can't be."""
    rule, readers, waiting, count, last = pool
    picked = [reader for reader in readers if reader[0] == event[1]]
    if not picked:
        return None
    reader = picked[0]
    if event[0] == "out":
        return behind_out(pool, reader)
    if event[0] == "credit":
        changed = reader[:1] + (event[2],) + reader[2:]
    else:
        changed = reader[:5] + (tuple([word for word in reader[5] if word[0] != event[2]]),)
        if len(changed[5]) == len(reader[5]):
            return None
    return rule, with_reader(readers, changed), waiting, count, last


def with_lot_told(pool):
    """The pool behind the telling of the first lot that waits, or None if it can't be told whole, and what is told."""
    rule, readers, waiting, count, last = pool
    told = []
    for word in waiting[0]:
        reader = reader_told(rule, readers, last, word[1])
        if reader is None:
            return None, []
        last = reader[0]
        readers = with_reader(readers, reader[:4] + (reader[4] + 1, reader[5] + (word,)))
        told.append((word[0], last))
    return (rule, readers, waiting[1:], count, last), told


def is_within_bounds(pool):
    """Tell whether what an event leads to is a pool."""
    _, readers, waiting, count, _ = pool
    return (
        1 <= len(readers) <= MOST_READERS and are_apart(readers) and len(waiting) <= MOST_LOTS and count <= MOST_COUNT
        and all([reader[4] <= MOST_COUNT for reader in readers])
    )


def pool_behind(pool, event):
    """The pool behind an event, or None if it can't happen, and the list of the pairs (number, name) told by it."""
    if event[0] == "come":
        pool = behind_come(pool, event)
    else:
        pool = behind_in(pool, event) if event[0] == "in" else behind_own(pool, event)
    if pool is None or not pool[1]:
        return None, []
    told = []
    while pool[2]:
        after, told_by_lot = with_lot_told(pool)
        if after is None:
            break
        pool = after
        told += told_by_lot
    return (pool, told) if is_within_bounds(pool) else (None, [])


def pool_can(pool, pool_event):
    """Tell whether a pool event can happen."""
    check_pool(pool)
    check_pool_event(pool_event)
    return pool_behind(pool, pool_event)[0] is not None


def pool_course(pool, pool_events):
    """The pair of the pool behind some events, and of the list of what is told by each of them."""
    course = []
    for event in pool_events:
        pool, told = pool_behind(pool, event)
        if pool is None:
            raise CannotHappen("a pool event can't happen")
        course.append(told)
    return pool, course


def pool_after(pool, pool_event):
    """The pool behind an event."""
    check_pool(pool)
    check_pool_event(pool_event)
    return pool_course(pool, (pool_event,))[0]


def pool_after_all(pool, pool_events):
    """The pool behind some events, one after another."""
    check_pool(pool)
    check_pool_events(pool_events)
    return pool_course(pool, pool_events)[0]


def pool_told(pool, pool_events):
    """The list of the pairs (number, name) of all words told in some events."""
    check_pool(pool)
    check_pool_events(pool_events)
    return [pair for told in pool_course(pool, pool_events)[1] for pair in told]
