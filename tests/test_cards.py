"""[17], [18], [58], and of [3] which cards are possible."""

import unittest
from itertools import product

from heardonce.cards import card_behind, card_events, is_card, is_possible
from heardonce.errors import CannotHappen, InvalidCard
from tests.arguments import ArgumentChecks
from tests.values import ODD_VALUES, bent, replaced

KINDS = ("words", "answers", "lets", "dones")
DEEDS = (("give",), ("again",)) + tuple((word, kind) for word in ("lose", "double", "arrive") for kind in KINDS)
CARD = ("paired", "sent", True, 0, 1, 0, 0)


def empty(way):
    return (way, "none", False, 0, 0, 0, 0)


def cards_up_to(numbers):
    return [
        (way, state, held) + many for way in ("marked", "paired") for state in ("none", "sent", "let")
        for held in (False, True) for many in product(numbers, repeat=4)
    ]


def behind(card, deed):
    """The card behind a card event, told by a dict that changes; None if it can't happen."""
    way, state, held = card[:3]
    many = dict(zip(KINDS, card[3:]))
    if deed == ("give",):
        if state != "none" or any(many.values()):
            return None
        state = "sent"
        many["words"] += 1
    elif deed == ("again",):
        if state == "none":
            return None
        many["words" if state == "sent" else "lets"] += 1
    else:
        word, kind = deed
        if many[kind] == 0:
            return None
        many[kind] += 1 if word == "double" else -1
        if word == "arrive":
            if kind == "words":
                many["answers"] += 1
                held = held or way == "paired"
            if kind == "answers" and way == "marked" and state == "sent":
                state = "none"
            if kind == "answers" and way == "paired" and many["words"] == 0:
                state = "let" if state == "sent" else state
                many["lets"] += 1
            if kind == "lets":
                held = False
                many["dones"] += 1
            if kind == "dones" and state == "let":
                state = "none"
    if max(many.values()) > 12:
        return None
    return (way, state, held) + tuple(many.values())


class Cards(unittest.TestCase):
    def test_cards(self):
        for card in cards_up_to((0, 12)):
            self.assertIs(is_card(card), True)

    def test_items(self):
        for at in range(3, 7):
            for many, is_one in ((-1, False), (0, True), (12, True), (13, False), (True, False), (None, False)):
                self.assertIs(is_card(replaced(CARD, (at,), many)), is_one)
        for way, is_one in (("marked", True), ("paired", True), ("light", False), ("", False)):
            self.assertIs(is_card(replaced(CARD, (0,), way)), is_one)
        for state, is_one in (("none", True), ("sent", True), ("let", True), (None, False), ("", False)):
            self.assertIs(is_card(replaced(CARD, (1,), state)), is_one)
        for held, is_one in ((True, True), (False, True), (0, False), (1, False), (None, False)):
            self.assertIs(is_card(replaced(CARD, (2,), held)), is_one)

    def test_other_kinds(self):
        for other in bent(CARD) + [CARD[:6], CARD + (0,), list(CARD), ()] + list(ODD_VALUES):
            self.assertIs(is_card(other), False, other)


class CardEvents(unittest.TestCase):
    def check_card(self, card):
        possible = []
        for deed in DEEDS:
            told = behind(card, deed)
            if told is None:
                with self.assertRaises(CannotHappen, msg=(card, deed)):
                    card_behind(card, deed)
            else:
                possible.append(deed)
                self.assertEqual(card_behind(card, deed), told, (card, deed))
                self.assertIs(is_card(card_behind(card, deed)), True)
        self.assertEqual(card_events(card), sorted(possible))

    def test_each_event_at_the_bounds(self):
        for card in cards_up_to((0, 1, 11, 12)):
            self.check_card(card)

    def test_told_one_by_one(self):
        for card, deed, told in (
            (empty("marked"), ("give",), ("marked", "sent", False, 1, 0, 0, 0)),
            (("marked", "sent", False, 1, 0, 0, 0), ("arrive", "words"), ("marked", "sent", False, 0, 1, 0, 0)),
            (("marked", "sent", False, 0, 2, 0, 0), ("arrive", "answers"), ("marked", "none", False, 0, 1, 0, 0)),
            (("paired", "sent", False, 2, 0, 0, 0), ("arrive", "words"), ("paired", "sent", True, 1, 1, 0, 0)),
            (("paired", "sent", True, 1, 1, 0, 0), ("arrive", "answers"), ("paired", "sent", True, 1, 0, 0, 0)),
            (("paired", "sent", True, 0, 1, 0, 0), ("arrive", "answers"), ("paired", "let", True, 0, 0, 1, 0)),
            (("paired", "none", False, 0, 1, 0, 0), ("arrive", "answers"), ("paired", "none", False, 0, 0, 1, 0)),
            (("paired", "let", True, 0, 0, 1, 0), ("arrive", "lets"), ("paired", "let", False, 0, 0, 0, 1)),
            (("paired", "let", False, 0, 0, 0, 1), ("arrive", "dones"), empty("paired")),
            (("paired", "sent", True, 0, 0, 0, 0), ("again",), ("paired", "sent", True, 1, 0, 0, 0)),
            (("paired", "let", True, 0, 0, 0, 0), ("again",), ("paired", "let", True, 0, 0, 1, 0)),
        ):
            self.assertEqual(card_behind(card, deed), told)

    def test_no_more_than_twelve(self):
        for card, deed in (
            (("paired", "sent", True, 12, 0, 0, 0), ("again",)), (("paired", "let", True, 0, 0, 12, 0), ("again",)),
            (("paired", "sent", True, 1, 12, 0, 0), ("arrive", "words")),
            (("paired", "let", True, 0, 1, 12, 0), ("arrive", "answers")),
            (("paired", "let", True, 0, 0, 1, 12), ("arrive", "lets")),
            (("paired", "let", True, 0, 0, 12, 1), ("double", "lets")),
        ):
            with self.assertRaises(CannotHappen):
                card_behind(card, deed)

    def test_other_values_than_events(self):
        for deed in ODD_VALUES + (
            ("give", "words"), ("again", 1), ("arrive",), ("arrive", "word"), ["give"], "give", ("turn", "words"), (),
        ):
            with self.assertRaises(CannotHappen):
                card_behind(CARD, deed)

    def test_new_lists(self):
        one = card_events(CARD)
        one.clear()
        self.assertEqual(len(card_events(CARD)), 4)


class Possible(unittest.TestCase):
    def test_beside_all_rows_of_events(self):
        reached = {empty("marked"), empty("paired")}
        ahead = sorted(reached)
        while ahead:
            card = ahead.pop()
            for deed in DEEDS:
                told = behind(card, deed)
                if told is not None and max(told[3:]) <= 2 and told not in reached:
                    reached.add(told)
                    ahead.append(told)
        for card in cards_up_to(range(3)):
            self.assertIs(is_possible(card), card in reached, card)

    def test_greater_numbers(self):
        for card, is_one in (
            (("marked", "none", False, 12, 12, 0, 0), True), (("marked", "let", False, 0, 0, 0, 0), False),
            (("marked", "sent", True, 0, 0, 0, 0), False), (("marked", "sent", False, 0, 0, 1, 0), False),
            (("paired", "sent", False, 12, 0, 0, 0), True), (("paired", "sent", False, 12, 1, 0, 0), False),
            (("paired", "let", False, 0, 12, 12, 12), True), (("paired", "let", True, 0, 12, 12, 0), True),
            (("paired", "let", True, 0, 12, 12, 1), False), (("paired", "none", False, 0, 12, 12, 12), True),
            (("paired", "none", False, 1, 0, 0, 0), False), (("paired", "none", True, 0, 0, 0, 0), False),
        ):
            self.assertIs(is_possible(card), is_one)


class Arguments(ArgumentChecks, unittest.TestCase):
    def test_wrong_arguments(self):
        wrong = (CARD[:6], list(CARD), replaced(CARD, (3,), 13), replaced(CARD, (2,), 1))
        for function in (is_possible, card_events):
            self.check_arguments(function, (CARD,), (InvalidCard,), (wrong,))
        self.check_arguments(
            card_behind, (CARD, ("again",)), (InvalidCard, CannotHappen), (wrong, (("give",), ("arrive", "words"))),
        )


if __name__ == "__main__":
    unittest.main()
