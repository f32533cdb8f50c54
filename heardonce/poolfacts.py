"""What there is to tell of pools: where words are, who is behind, and what pools make of words in worlds."""

from math import gcd

from heardonce.checks import is_integer
from heardonce.errors import CannotHappen, InvalidEvents, InvalidNames, InvalidNumber, InvalidPool
from heardonce.names import check_way, is_name
from heardonce.poolevents import are_topics, check_pool_events, pool_behind, pool_course
from heardonce.pools import MOST_COUNT, check_pool, words_of
from heardonce.worlds import MOST_CLIENTS

MOST_TOPICS = 12
# How many frames there are of a word that nothing happens to, all answers added.
FRAMES_OF_WAYS = {"light": 1, "marked": 2, "paired": 4}


def check_number(number):
    if not is_integer(number, 0, MOST_COUNT):
        raise InvalidNumber("not a number")


def where_is(pool, number):
    """Where the word with a number is: it waits, is held by a reader, or is done."""
    check_pool(pool)
    check_number(number)
    if number >= pool[3]:
        raise InvalidNumber("not the number of a word that came")
    for reader in pool[1]:
        if number in [word[0] for word in reader[5]]:
            return "held", reader[0]
    return ("waits",) if number in [word[0] for word in words_of((), pool[2])] else ("done",)


def fair_lag(pool):
    """The greatest lag of a reader behind its weight's part of all words told, as a pair without a common divisor."""
    check_pool(pool)
    told, weights = sum([reader[4] for reader in pool[1]]), sum([reader[2] for reader in pool[1]])
    top = max([told * reader[2] - reader[4] * weights for reader in pool[1]])
    common = gcd(top, weights)
    return top // common, weights // common


def slow_in(pool, pool_events, number):
    """The names of the readers that hold a word, told in some events, behind which so many events have happened."""
    check_pool(pool)
    check_pool_events(pool_events)
    check_number(number)
    behind, course = pool_course(pool, pool_events)
    # Told anew, a word counts from its last telling on.
    indices = {word: at for at, told in enumerate(course) for word, _ in told}
    old = [word for word in indices if len(pool_events) - 1 - indices[word] >= number]
    return [reader[0] for reader in behind[1] if any([word[0] in old for word in reader[5]])]


def arrivals_of(name, sides):
    return tuple([("arrive", name, side) for side in sides])


def events_of_word(sender, reader, way, topic, body):
    """The events of a world in which a word goes from its sender to a reader, with all answers."""
    there, back = ("coming", "going") * 2, ("going", "coming") * 2
    many = FRAMES_OF_WAYS[way]
    return (
        (("wish", reader, "#", way), ("give", sender, way, topic, body)) + arrivals_of(sender, there[:many])
        + (("unwish", reader, "#"), ("pass", reader)) + arrivals_of(reader, back[:many])
    )


def check_sharing(pool, sender, topics):
    """Check all that is asked of a pool, a sender and topics together."""
    if not are_topics(topics, 0, MOST_TOPICS):
        raise InvalidEvents("not a tuple of topics")
    if len(set([reader[0] for reader in pool[1]] + [sender])) > MOST_CLIENTS:
        raise InvalidNames("too many names for a world")
    if words_of(pool[1], pool[2]):
        raise InvalidPool("not a pool in which nothing is held, and nothing waits")


def share_events(pool, sender, way, topics):
    """The events of a world in which a sender's words go to the readers that a pool tells them to."""
    check_pool(pool)
    if not is_name(sender):
        raise InvalidNames("not a name")
    check_way(way)
    check_sharing(pool, sender, topics)
    events = ()
    for body, topic in enumerate(topics):
        pool, told = pool_behind(pool, ("come", (topic,)))
        if not told:
            raise CannotHappen("a topic is told to nobody")
        number, reader = told[0]
        events += events_of_word(sender, reader, way, topic, body)
        pool = pool_behind(pool, ("done", reader, number))[0]
    return events
