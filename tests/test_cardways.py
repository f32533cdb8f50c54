"""[17], [18], [59], and of [3] that all cards are possible in manners that are ahead and careful."""

import random
import unittest

from heardonce.cards import card_behind, is_possible
from heardonce.cardways import cards_of, is_way_to, way_to
from heardonce.errors import CannotHappen, InvalidCard, InvalidNames, InvalidSide, InvalidWorld
from heardonce.events import happened
from heardonce.worlds import fresh_world
from tests.arguments import ArgumentChecks
from tests.runs import HARSH, MANNERS, NAMES, some_run
from tests.test_cards import CARD, DEEDS, cards_up_to, empty
from tests.test_worlds import RICH
from tests.values import ODD_VALUES, replaced


def walked(card, deeds):
    """The card behind card events from the empty card on, None if one of them can't happen."""
    reached = empty(card[0])
    for deed in deeds:
        try:
            reached = card_behind(reached, deed)
        except CannotHappen:
            return None
    return reached


class Ways(unittest.TestCase):
    def check_way(self, card):
        way = way_to(card)
        if not is_possible(card):
            self.assertIsNone(way)
            return
        self.assertIsInstance(way, tuple)
        self.assertLessEqual(len(way), 100)
        self.assertEqual(walked(card, way), card)
        self.assertIs(is_way_to(card, way), True)

    def test_small_cards(self):
        for card in cards_up_to((0, 1, 2)):
            self.check_way(card)

    def test_great_cards(self):
        for card in cards_up_to((0, 1, 5, 11, 12)):
            self.check_way(card)

    def test_empty_cards(self):
        for way in ("marked", "paired"):
            self.assertIs(is_way_to(empty(way), ()), True)
            self.check_way(empty(way))


class IsWay(unittest.TestCase):
    def test_bent_at_one_place(self):
        for card in cards_up_to((0, 3))[::3]:
            if is_possible(card):
                way = way_to(card)
                for at in range(len(way)):
                    for deeds in [way[:at] + way[at + 1:]] + [way[:at] + (deed,) + way[at + 1:] for deed in DEEDS]:
                        self.assertIs(is_way_to(card, deeds), walked(card, deeds) == card)

    def test_ends_elsewhere(self):
        way = (("give",), ("arrive", "words"))
        self.assertIs(is_way_to(CARD, way), True)
        for value in (way[:1], way[::-1], way + (("again",),), (), list(way), (list(way[0]), way[1]), ("give",) + way):
            self.assertIs(is_way_to(CARD, value), False)
        self.assertIs(is_way_to(("marked",) + CARD[1:], way), False)

    def test_any_value(self):
        for value in ODD_VALUES + (None, "give", (("give",), None), (("give",), ("arrive", "word"))):
            self.assertIs(is_way_to(CARD, value), False)
        self.assertIs(is_way_to(empty("paired"), None), False)
        self.assertIs(is_way_to(("paired", "none", True, 0, 0, 0, 0), ()), False)

    def test_at_most_a_hundred(self):
        both = (("double", "answers"), ("lose", "answers"))
        way = (("give",), ("arrive", "words"))
        self.assertIs(is_way_to(CARD, way + both * 49), True)
        self.assertIs(is_way_to(CARD, way + both * 50), False)
        long = way + (("double", "answers"),) + both * 48 + (("double", "answers"),)
        self.assertEqual(len(long), 100)
        self.assertIs(is_way_to(replaced(CARD, (4,), 3), long), True)
        self.assertIs(is_way_to(replaced(CARD, (4,), 4), long + (("double", "answers"),)), False)


def all_cards(world, at, side):
    """The cards of a line, counted one by one."""
    _, clients, sessions, lines, *_ = world
    ahead, back = (lines[at][1], lines[at][2]) if side == "coming" else (lines[at][2], lines[at][1])
    giver, taker = clients[at][1], sessions[at][2]
    if side == "going":
        giver, taker = taker, giver
    found = []
    for number in range(8):
        for way, answer in (("marked", "heard"), ("paired", "taken")):
            state = [entry[2] for entry in giver[0] if entry[0] == number and entry[1] == way] or ["none"]
            words = sum(frame[0] == "word" and frame[1] == way and frame[2] == number for frame in ahead)
            answers = sum(frame == (answer, number) for frame in back)
            held, lets, dones = False, 0, 0
            if way == "paired":
                held = number in taker[1]
                lets, dones = ahead.count(("let", number)), back.count(("done", number))
            card = (way, state[0], held, words, answers, lets, dones)
            if card != empty(way):
                found.append((number, card))
    return found


class CardsOfWorlds(unittest.TestCase):
    def check_world(self, world):
        for at, name in enumerate(client[0] for client in world[1]):
            for side in ("coming", "going"):
                cards = cards_of(world, name, side)
                self.assertEqual(cards, all_cards(world, at, side))
                self.assertEqual(cards, sorted(cards))

    def test_rows_of_events(self):
        for seed in range(64):
            manner = MANNERS[seed % len(MANNERS)]
            _, model = some_run(random.Random(seed), manner, 60, HARSH)
            self.check_world(model.world())

    def test_rich_world(self):
        self.check_world(RICH)
        self.assertEqual(cards_of(RICH, "ann", "coming"), [
            (0, ("marked", "sent", False, 1, 1, 0, 0)), (0, ("paired", "none", False, 0, 0, 0, 1)),
            (1, ("paired", "sent", False, 0, 1, 0, 0)), (2, ("paired", "let", True, 1, 0, 1, 0)),
        ])
        self.assertEqual(cards_of(RICH, "bob", "coming"), [(0, ("paired", "none", True, 0, 0, 0, 0))])
        self.assertEqual(cards_of(RICH, "bob", "going"), [])

    def test_logs_do_not_count(self):
        world = fresh_world((2, False, True), ("ann",))
        world = replaced(world, (1, 0, 2), (((0, "paired", "let", "a", 1),), (1,)))
        world = replaced(world, (2, 0, 3), (((0, "paired", "let", "a", 1),), (1,), ()))
        for side in ("coming", "going"):
            self.assertEqual(cards_of(world, "ann", side), [])

    def test_all_cards_are_possible(self):
        harsh = {**HARSH, "lose": 4, "double": 8, "turn": 8, "again": 6}
        for seed in range(60):
            dice = random.Random(seed)
            manner = ((1, 2, 3, 8)[seed % 4], True, True)
            events, model = some_run(dice, manner, 60, harsh, NAMES[:2])
            world = fresh_world(manner, NAMES[:2])
            for event in events:
                world = happened(world, event)
                self.check_possible(world)
            self.assertEqual(world, model.world())

    def check_possible(self, world):
        for name in NAMES[:2]:
            for side in ("coming", "going"):
                cards = cards_of(world, name, side)
                self.assertTrue(all(is_possible(card) for _, card in cards), cards)
                self.assertEqual(len({number for number, _ in cards}), len(cards))

    def test_new_lists(self):
        one = cards_of(RICH, "ann", "coming")
        one.clear()
        self.assertEqual(len(cards_of(RICH, "ann", "coming")), 4)


class Arguments(ArgumentChecks, unittest.TestCase):
    def test_wrong_arguments(self):
        cards = (CARD[:6], list(CARD), replaced(CARD, (3,), 13))
        self.check_arguments(way_to, (CARD,), (InvalidCard,), (cards,))
        self.check_arguments(is_way_to, (CARD, ()), (InvalidCard, None), (cards, ()))
        self.check_arguments(
            cards_of, (RICH, "ann", "coming"), (InvalidWorld, InvalidNames, InvalidSide),
            ((RICH[:6], list(RICH)), ("", "cid"), ("", "there")),
        )


if __name__ == "__main__":
    unittest.main()
