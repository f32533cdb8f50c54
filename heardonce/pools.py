"""Pools of readers that share words, and the reader for a word."""

from heardonce.checks import is_integer, is_rising
from heardonce.errors import InvalidPool
from heardonce.names import check_topic, is_name, is_topic

RULES = ("fair", "key", "least", "turns")
MOST_READERS = 6
MOST_CREDIT = 9
MOST_WEIGHT = 9
MOST_PLACE = 100
MOST_COUNT = 1000
MOST_HELD = 100
MOST_LOTS = 12
MOST_WORDS = 6
KEYS = 101


def is_reader(value):
    """Tell whether any value is a reader as it is handed to a pool."""
    return (
        isinstance(value, tuple) and len(value) == 4 and is_name(value[0]) and is_integer(value[1], 0, MOST_CREDIT)
        and is_integer(value[2], 1, MOST_WEIGHT) and is_integer(value[3], 0, MOST_PLACE)
    )


def is_pool_word(value, count):
    """Tell whether any value is a word of a pool, with a number less than its count."""
    return (
        isinstance(value, tuple) and len(value) == 2 and is_integer(value[0], 0, count - 1) and is_topic(value[1])
    )


def are_words(value, least, most, count):
    return (
        isinstance(value, tuple) and least <= len(value) <= most and all([is_pool_word(word, count) for word in value])
    )


def is_reader_within(value, count):
    """Tell whether any value is a reader in a pool with a count."""
    return (
        isinstance(value, tuple) and len(value) == 6 and is_reader(value[:4]) and is_integer(value[4], 0, MOST_COUNT)
        and are_words(value[5], 0, MOST_HELD, count)
    )


def are_apart(readers):
    """Tell whether the names of readers ascend, and no place stands twice."""
    places = [reader[3] for reader in readers]
    return is_rising([reader[0] for reader in readers]) and len(set(places)) == len(places)


def are_readers(value):
    """Tell whether any value is readers as they are handed to a pool."""
    if not isinstance(value, tuple) or not 1 <= len(value) <= MOST_READERS:
        return False
    return all([is_reader(reader) for reader in value]) and are_apart(value)


def words_of(readers, waiting):
    """The list of all words that are held, and that wait."""
    return [word for reader in readers for word in reader[5]] + [word for lot in waiting for word in lot]


def is_pool(value):
    """Tell whether any value is a pool."""
    if not isinstance(value, tuple) or len(value) != 5 or value[0] not in RULES:
        return False
    _, readers, waiting, count, last = value
    if not is_integer(count, 0, MOST_COUNT) or not (last == "" or is_name(last)):
        return False
    if not isinstance(readers, tuple) or not 1 <= len(readers) <= MOST_READERS:
        return False
    if not all([is_reader_within(reader, count) for reader in readers]) or not are_apart(readers):
        return False
    if not isinstance(waiting, tuple) or len(waiting) > MOST_LOTS:
        return False
    if not all([are_words(lot, 1, MOST_WORDS, count) for lot in waiting]):
        return False
    numbers = [number for number, _ in words_of(readers, waiting)]
    return len(set(numbers)) == len(numbers)


def check_pool(pool):
    if not is_pool(pool):
        raise InvalidPool("not a pool")


def check_readers(readers):
    if not are_readers(readers):
        raise InvalidPool("not readers for a pool")


def fresh_pool(rule, readers):
    """The pool of readers to which no word came yet."""
    if rule not in RULES:
        raise InvalidPool("not a rule")
    check_readers(readers)
    return rule, tuple([reader + (0, ()) for reader in readers]), (), 0, ""


def topic_key(topic):
    key = 7
    for sign in topic:
        key = (31 * key + ord(sign)) % KEYS
    return key


def key_of(topic):
    """The key of a topic."""
    check_topic(topic)
    return topic_key(topic)


def has_credit(reader):
    return len(reader[5]) < reader[1]


def reader_by_key(readers, key):
    """The reader with the least place that is not less than a key, or else with the least of all."""
    behind = [reader for reader in readers if reader[3] >= key]
    return min(behind if behind else list(readers), key=lambda reader: reader[3])


def reader_by_turns(able, last):
    """The first reader behind a name, or else the first one."""
    behind = [reader for reader in able if reader[0] > last]
    return behind[0] if behind else able[0]


def fairest_reader(able):
    """The first reader of those for whom told and 1, divided by the weight, is least."""
    best = able[0]
    for reader in able[1:]:
        if (reader[4] + 1) * best[2] < (best[4] + 1) * reader[2]:
            best = reader
    return best


def reader_told(rule, readers, last, topic):
    """The reader for a word with a topic, or None if there is none."""
    if rule == "key":
        reader = reader_by_key(readers, topic_key(topic))
        return reader if has_credit(reader) else None
    able = [reader for reader in readers if has_credit(reader)]
    if not able:
        return None
    if rule == "turns":
        return reader_by_turns(able, last)
    return min(able, key=lambda reader: len(reader[5])) if rule == "least" else fairest_reader(able)


def reader_for(pool, topic):
    """The name of the reader for a word with a topic, or None if there is none."""
    check_pool(pool)
    check_topic(topic)
    rule, readers, _, _, last = pool
    reader = reader_told(rule, readers, last, topic)
    return None if reader is None else reader[0]


def moved_keys(readers, other_readers):
    """The ascending list of all keys by which readers with unlike names are told."""
    check_readers(readers)
    check_readers(other_readers)
    return [key for key in range(KEYS) if reader_by_key(readers, key)[0] != reader_by_key(other_readers, key)[0]]
