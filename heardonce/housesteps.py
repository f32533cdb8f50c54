"""What steps of houses do.

A word that waits is here a tuple (turn, way, topic, body), and may have more items behind these: a step is told what
words that come by it get there.
"""

from heardonce.names import greatest_way, is_met, lesser_way
from heardonce.worlds import MOST_WISHES

MOST_TURN = 1000000
MOST_SESSIONS = 6


def session_of(house, name):
    """The session with a name, or None if there is none."""
    found = [session for session in house[1] if session[0] == name]
    return found[0] if found else None


def is_open(session):
    return session is not None and session[1] == "open"


def with_session(house, session):
    """The house with a session, in the place of the one of its name, if there is any."""
    others = [other for other in house[1] if other[0] != session[0]]
    return house[0], tuple(sorted(others + [session], key=lambda one: one[0]))


def way_to_session(session, way, topic):
    """The way in which a word comes to a session, or None if it does not come."""
    wanted = greatest_way([wished for wish, wished in session[3] if is_met(topic, wish)])
    return None if wanted is None else lesser_way(way, wanted)


def place_to_drop(rule, words):
    """The index of the word that is dropped first by a rule, the last one being the one that came last."""
    if rule == "newer":
        return len(words) - 1
    light = [at for at, word in enumerate(words) if word[1] == "light"]
    return light[0] if rule == "light" and light else 0


def fitted(session):
    """A session without the words for which it has no room, and what is told of these."""
    name, state, terms, wishes, waits = session
    told = ()
    while len(waits) > terms[1]:
        at = place_to_drop(terms[2], waits)
        told += (("dropped", name, "room") + waits[at],)
        waits = waits[:at] + waits[at + 1:]
    return (name, state, terms, wishes, waits), told


def behind_word(session, turn, word, more):
    """A session behind the telling of a word to all, and what is told of this."""
    way, topic, body = word
    coming = way_to_session(session, way, topic)
    if coming is None:
        return session, ()
    return fitted(session[:4] + (session[4] + ((turn, coming, topic, body) + more,),))


def told_to_all(house, word, more):
    """The house behind the telling of a word to all sessions, and what is told of this."""
    turn, sessions = house
    behind, told = (), ()
    for session in sessions:
        after, dropped = behind_word(session, turn, word, more)
        behind += (after,)
        told += dropped
    return (turn, behind), told


def ended(house, session):
    """The house behind the end of a session, and what is told of it."""
    name, waits = session[0], session[4]
    told = tuple([("dropped", name, "end") + word for word in waits]) + (("ended", name),)
    return (house[0], tuple([other for other in house[1] if other[0] != name])), told


def left_alone(house, session):
    """The house in which an open session has forgotten its last word and lives on by its keep, and what is told."""
    name, _, (keep, room, rule, _), wishes, waits = session
    if keep == 0:
        return ended(house, session)
    return with_session(house, (name, keep, (keep, room, rule, None), wishes, waits)), ()


def broken(house, session, more):
    """The house in which an open session is broken, and what is told."""
    last = session[2][3]
    house, told = left_alone(house, session)
    if last is None:
        return house, told
    house, told_of_last = told_to_all(house, last, more)
    return house, told + told_of_last


def behind_open(house, step, more):
    _, name, fresh, terms = step
    session, told = session_of(house, name), ()
    if is_open(session):
        house, told = broken(house, session, more)
        session = session_of(house, name)
    if session is not None and not fresh:
        session, dropped = fitted((name, "open", terms) + session[3:])
        return with_session(house, session), told + dropped + (("on", name, len(session[4])),)
    if session is not None:
        house, dropped = ended(house, session)
        told += dropped
    return with_session(house, (name, "open", terms, (), ())), told + (("new", name),)


def behind_wish(house, session, step):
    wish, way = step[2:]
    wishes = [pair for pair in session[3] if pair[0] != wish] + [(wish, way)]
    return with_session(house, session[:3] + (tuple(sorted(wishes)),) + session[4:]), ()


def behind_unwish(house, session, step):
    wishes = tuple([pair for pair in session[3] if pair[0] != step[2]])
    if wishes == session[3]:
        return None
    return with_session(house, session[:3] + (wishes,) + session[4:]), ()


def behind_take(house, session, step):
    waits, many = session[4], step[2]
    told = tuple([("handed", session[0]) + word for word in waits[:many]])
    return with_session(house, session[:4] + (waits[many:],)), told


def one_turn_less(session):
    return session if is_open(session) else session[:1] + (session[1] - 1,) + session[2:]


def behind_turn(house):
    sessions = [one_turn_less(session) for session in house[1]]
    behind, told = (house[0] + 1, tuple(sessions)), ()
    for session in sessions:
        if session[1] == 0:
            behind, told_of_end = ended(behind, session)
            told += told_of_end
    return behind, told


def behind_own(house, step, more):
    """What there is behind a step of an open session, or None if it can't be done."""
    session = session_of(house, step[1])
    if not is_open(session):
        return None
    if step[0] == "shut":
        return left_alone(house, session)
    if step[0] == "break":
        return broken(house, session, more)
    if step[0] == "wish":
        return behind_wish(house, session, step)
    if step[0] == "unwish":
        return behind_unwish(house, session, step)
    return behind_take(house, session, step)


def is_within_bounds(house):
    """Tell whether what a step leads to is a house."""
    turn, sessions = house
    if turn > MOST_TURN or len(sessions) > MOST_SESSIONS:
        return False
    return all([len(session[3]) <= MOST_WISHES for session in sessions])


def stepped(house, step, more):
    """The pair of the house behind a step and of what this tells, or None if it can't be done.

    `more` is what the words that come by this step get behind their other items.
    """
    if step[0] == "open":
        behind = behind_open(house, step, more)
    elif step[0] == "tell":
        behind = told_to_all(house, step[1:], more)
    elif step[0] == "turn":
        behind = behind_turn(house)
    else:
        behind = behind_own(house, step, more)
    return behind if behind is not None and is_within_bounds(behind[0]) else None
