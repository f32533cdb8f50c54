"""Ways to cards, and the cards of a world."""

from heardonce.cards import behind_deed, can_be, check_card, empty_card, possible_deeds
from heardonce.names import WAYS
from heardonce.parts import frames_at, memory_at, other_side
from heardonce.worlds import check_name_in, check_side, check_world, names_of

MOST_DEEDS = 100


def made_many(kind, many):
    """What makes so many frames of a kind out of one."""
    return [("lose", kind)] if many == 0 else [("double", kind)] * (many - 1)


def kept_one(kind, many):
    """What makes another frame of a kind out of one, if any are wanted behind the next arrival."""
    return [("double", kind)] if many > 0 else []


def made_rest(kind, many):
    """What makes so many frames of a kind out of the one that `kept_one` left, if it left one."""
    return made_many(kind, many) if many > 0 else []


def made_words_again(many):
    return [("again",)] * many


def way_to_marked(card):
    _, state, _, words, answers, _, _ = card
    deeds = [("give",), ("arrive", "words")] + made_words_again(words)
    if state == "sent":
        return deeds + made_many("answers", answers)
    return deeds + kept_one("answers", answers) + [("arrive", "answers")] + made_rest("answers", answers)


def way_to_sent_pair(card):
    _, _, held, words, answers, _, _ = card
    if not held:
        return [("give",)] + made_many("words", words)
    return [("give",), ("arrive", "words")] + made_many("answers", answers) + made_words_again(words)


def way_to_let_pair(card):
    _, state, held, _, answers, lets, dones = card
    deeds = [("give",), ("arrive", "words")]
    deeds += kept_one("answers", answers) + [("arrive", "answers")] + made_rest("answers", answers)
    if held:
        return deeds + made_many("lets", lets)
    deeds += kept_one("lets", lets) + [("arrive", "lets")] + made_rest("lets", lets)
    if state == "let":
        return deeds + made_many("dones", dones)
    return deeds + kept_one("dones", dones) + [("arrive", "dones")] + made_rest("dones", dones)


def way_to(card):
    """A tuple of card events that leads to a card from the empty one of its way, or None if there is none."""
    check_card(card)
    if not can_be(card):
        return None
    if card == empty_card(card[0]):
        return ()
    if card[0] == "marked":
        return tuple(way_to_marked(card))
    if card[1] == "sent":
        return tuple(way_to_sent_pair(card))
    return tuple(way_to_let_pair(card))


def is_way_to(card, value):
    """Tell whether any value is a tuple of at most 100 card events that leads to a card from the empty one."""
    check_card(card)
    if not isinstance(value, tuple) or len(value) > MOST_DEEDS:
        return False
    reached = empty_card(card[0])
    for deed in value:
        if deed not in possible_deeds(reached):
            return False
        reached = behind_deed(reached, deed)
    return reached == card


def count_frames(frames, word, number, way):
    """How many of some frames have this word and number, and this way, if they are words."""
    told = [frame for frame in frames if frame[0] == word]
    if word == "word":
        return len([frame for frame in told if frame[1:3] == (way, number)])
    return len([frame for frame in told if frame[1] == number])


def card_at(world, at, side, number, way):
    """The card of a number, in a way, of words that go to a side of the line with an index."""
    back = other_side(side)
    ahead, behind = frames_at(world, at, side), frames_at(world, at, back)
    states = [entry[2] for entry in memory_at(world, at, side)[0] if entry[:2] == (number, way)]
    state = states[0] if states else "none"
    words = count_frames(ahead, "word", number, way)
    if way == "marked":
        return way, state, False, words, count_frames(behind, "heard", number, way), 0, 0
    held = number in memory_at(world, at, back)[1]
    lets, dones = count_frames(ahead, "let", number, way), count_frames(behind, "done", number, way)
    return way, state, held, words, count_frames(behind, "taken", number, way), lets, dones


def cards_of(world, name, side):
    """The ascending list of the pairs (number, card) of all cards but empty ones, of words that go to a side."""
    check_world(world)
    check_name_in(world, name)
    check_side(side)
    at = names_of(world).index(name)
    pairs = [(number, card_at(world, at, side, number, way)) for number in range(world[0][0]) for way in WAYS[1:]]
    return [(number, card) for number, card in pairs if card != empty_card(card[0])]
