"""Rights: which topics are let for which deeds."""

from heardonce.checks import is_row
from heardonce.errors import InvalidDeed, InvalidRights
from heardonce.names import check_topic, check_wish, is_met, is_wish
from heardonce.wishes import common_of, topic_beyond

MOST_RULES = 12
DEEDS = ("give", "hear")
# The rule that stands, as it were, behind all others.
LAST_RULE = ("bar", "both", "#")


def is_rule(value):
    return (
        isinstance(value, tuple) and len(value) == 3 and value[0] in ("let", "bar")
        and value[1] in ("give", "hear", "both") and is_wish(value[2])
    )


def are_rights(value):
    """Tell whether any value is rights."""
    return is_row(value, 0, MOST_RULES, is_rule)


def check_rights(rights):
    if not are_rights(rights):
        raise InvalidRights("not rights")


def check_deed(deed):
    if deed not in DEEDS:
        raise InvalidDeed("not a deed")


def rows_for(rights, deed):
    """The list of the pairs (word, wish) of the rules for a deed, and of the last rule."""
    return [(word, wish) for word, told, wish in rights + (LAST_RULE,) if told in (deed, "both")]


def is_let(rights, deed, topic):
    """Tell whether a topic is let by rights, for a deed."""
    check_rights(rights)
    check_deed(deed)
    check_topic(topic)
    return [word for word, wish in rows_for(rights, deed) if is_met(topic, wish)][0] == "let"


def topic_told(rows, start, asked, wish):
    """A topic that meets a wish, its first row being one from a start on with the asked word, or None."""
    for index in range(start, len(rows)):
        word, told = rows[index]
        common = common_of(wish, told) if word == asked else None
        if common is not None:
            topic = topic_beyond(common, [earlier for _, earlier in rows[:index]])
            if topic is not None:
                return topic
    return None


def check_for_wish(rights, deed, wish):
    check_rights(rights)
    check_deed(deed)
    check_wish(wish)


def part_let(rights, deed, wish):
    """How much of the topics that meet a wish is let: "all", "some" or "none"."""
    check_for_wish(rights, deed, wish)
    rows = rows_for(rights, deed)
    if topic_told(rows, 0, "let", wish) is None:
        return "none"
    return "all" if topic_told(rows, 0, "bar", wish) is None else "some"


def let_topic(rights, deed, wish):
    """A topic that meets a wish and is let, or None if there is none."""
    check_for_wish(rights, deed, wish)
    return topic_told(rows_for(rights, deed), 0, "let", wish)


def barred_topic(rights, deed, wish):
    """A topic that meets a wish and is barred, or None if there is none."""
    check_for_wish(rights, deed, wish)
    return topic_told(rows_for(rights, deed), 0, "bar", wish)


def topic_let_by_one(rights, other_rights, deed):
    """A topic that is let by rights, and barred by other ones, or None if there is none."""
    rows, others = rows_for(rights, deed), rows_for(other_rights, deed)
    for index, (word, wish) in enumerate(rows):
        for at, (told, other) in enumerate(others):
            common = common_of(wish, other) if (word, told) == ("let", "bar") else None
            if common is not None:
                earlier = [barred for _, barred in rows[:index] + others[:at]]
                topic = topic_beyond(common, earlier)
                if topic is not None:
                    return topic
    return None


def topic_apart(rights, other_rights, deed):
    """A topic that is let by just one of both rights, or None if there is none."""
    topic = topic_let_by_one(rights, other_rights, deed)
    return topic_let_by_one(other_rights, rights, deed) if topic is None else topic


def is_idle_for(rights, index, deed):
    """Tell whether no topic is let otherwise, for a deed, without the rule with an index."""
    word, told, wish = rights[index]
    if told not in (deed, "both"):
        return True
    # What a rule tells otherwise is first told, without it, by one behind it.
    start = len(rows_for(rights[:index], deed)) - 1
    left = rows_for(rights[:index] + rights[index + 1:], deed)
    return topic_told(left, start, "bar" if word == "let" else "let", wish) is None


def idle_rules(rights):
    """The ascending list of the indices of the rules each of which can be left out by itself."""
    check_rights(rights)
    return [index for index in range(len(rights)) if all([is_idle_for(rights, index, deed) for deed in DEEDS])]


def topic_at_odds(rights, other_rights, deed):
    """A topic that is let by just one of both rights, or None if there is none."""
    check_rights(rights)
    check_rights(other_rights)
    check_deed(deed)
    return topic_apart(rights, other_rights, deed)
