"""[20], [61], and of [3] what makes windows sound."""

import random
import unittest
from itertools import product

from heardonce.errors import InvalidSizes
from heardonce.windowharms import are_sound, is_harm, window_harm
from tests.arguments import ArgumentChecks
from tests.test_windows import ALL_EVENTS, ANSWER, GIVE, WORD, Impossible, Model
from tests.values import ODD_VALUES

ALL_SIZES = tuple(product(range(1, 17), range(1, 9), range(1, 9), (False, True)))
NARROW = (2, 2, 1, False)
HARM = (GIVE, GIVE, WORD, WORD, ("again", 0), WORD)
# At the edges of ring, giving and taking, and with both windows together one more than the ring, and just so many.
EDGES = tuple(
    sizes for sizes in ALL_SIZES
    if sizes[0] in (1, 15, 16) and sizes[1] in (1, 8) and sizes[2] in (1, 8)
    or sizes[1] + sizes[2] - sizes[0] in (0, 1)
)


def model_behind(sizes, events):
    model = Model(sizes)
    for event in events:
        model = model.behind(event)
    return model


def is_harm_told(sizes, events):
    """Tell by the second telling whether window events lead to a harmed state."""
    try:
        return 1 <= len(events) <= 100 and bool(model_behind(sizes, events).harmed)
    except Impossible:
        return False


class Sound(unittest.TestCase):
    def test_all_sizes(self):
        for ring, giving, taking, turned in ALL_SIZES:
            sound = not turned and giving + taking <= ring
            self.assertIs(are_sound((ring, giving, taking, turned)), sound)

    def test_no_harm_comes_to_sound_sizes(self):
        dice = random.Random(61)
        sound = [sizes for sizes in ALL_SIZES if sizes[1] + sizes[2] == sizes[0] and not sizes[3]]
        for _ in range(150):
            sizes = dice.choice(sound)
            model = Model(sizes)
            for _ in range(150):
                again = ("again", dice.randrange(model.base, model.upto + 1))
                event = dice.choice((GIVE, GIVE, WORD, WORD, ANSWER, again, again, dice.choice(ALL_EVENTS[84:])))
                try:
                    model = model.behind(event)
                except Impossible:
                    continue
                self.assertFalse(model.harmed, sizes)

    def test_all_rows_for_small_sizes(self):
        """All states of few frames are gone through: sound sizes come to no harm, all others do."""
        for ring, giving, taking in product(range(1, 5), range(1, 3), range(1, 3)):
            sizes = (ring, giving, taking, False)
            self.assertIs(self.comes_to_harm(sizes), not are_sound(sizes), sizes)

    def comes_to_harm(self, sizes):
        first = Model(sizes)
        layer, known = [first], {first.state()}
        while layer:
            found = []
            for model in layer:
                # No window moves on farther than twice round the ring, and no line grows long.
                events = [GIVE] * (model.upto < 2 * sizes[0] + 1) + [WORD, ANSWER]
                events += [("again", index) for index in range(model.base, model.upto)]
                events += [("lose", side, 0) for side in ("there", "back")]
                for event in events:
                    try:
                        after = model.behind(event)
                    except Impossible:
                        continue
                    if after.harmed:
                        return True
                    if max(map(len, after.rows.values())) <= 3 and after.state() not in known:
                        known.add(after.state())
                        found.append(after)
            layer = found
        return False


class Harms(unittest.TestCase):
    def test_harms_of_all_sizes(self):
        for sizes in ALL_SIZES:
            harm = window_harm(sizes)
            if are_sound(sizes):
                self.assertIsNone(harm)
                continue
            self.assertIsInstance(harm, tuple)
            self.assertTrue(1 <= len(harm) <= 100, sizes)
            self.assertTrue(model_behind(sizes, harm).harmed, sizes)
            self.assertIs(is_harm(sizes, harm), True, sizes)

    def bent_harms(self, harm):
        for at in range(len(harm)):
            yield harm[:at] + harm[at + 1:]
            yield harm[:at] + harm[at:at + 1] * 2 + harm[at + 1:]
            for event in (GIVE, WORD, ANSWER, ("again", 0), ("lose", "there", 0), ("turn", "there", 0)):
                yield harm[:at] + (event,) + harm[at + 1:]

    def test_bent_harms(self):
        seen = set()
        for sizes in EDGES[::3] + (NARROW,):
            for harm in self.bent_harms(window_harm(sizes) or HARM):
                self.assertIs(is_harm(sizes, harm), is_harm_told(sizes, harm), (sizes, harm))
                seen.add(is_harm(sizes, harm))
        self.assertEqual(seen, {False, True})

    def test_edges_are_of_both_kinds(self):
        self.assertEqual({are_sound(sizes) for sizes in EDGES}, {False, True})
        for turned in (False, True):
            self.assertTrue(any(not are_sound(sizes) for sizes in EDGES if sizes[3] is turned))

    def test_lengths(self):
        self.assertIs(is_harm(NARROW, ()), False)
        longest = HARM + (("lose", "back", 0), ("double", "back", 0)) * 47
        self.assertEqual(len(longest), 100)
        self.assertIs(is_harm(NARROW, longest), True)
        self.assertIs(is_harm(NARROW, longest + (ANSWER,)), False)
        self.assertTrue(model_behind(NARROW, longest + (ANSWER,)).harmed)
        self.assertIs(is_harm(NARROW, HARM), True)
        self.assertIs(is_harm(NARROW, HARM[:5]), False)

    def test_harm_stays(self):
        self.assertIs(is_harm(NARROW, HARM + (("again", 1), WORD, ANSWER)), True)
        self.assertIs(is_harm(NARROW, HARM + (WORD,)), False)

    def test_any_value(self):
        for value in ODD_VALUES + (list(HARM), HARM + (("give", 0),), (HARM,), "give", HARM[:5] + (["word"],)):
            self.assertIs(is_harm(NARROW, value), False, value)
        for value in (("again", True), ("again", 81), ("lose", "there"), ("stop", ""), None, ("again", "0")):
            self.assertIs(is_harm(NARROW, HARM[:4] + (value, WORD)), False)
        self.assertIs(is_harm((4, 2, 2, False), HARM), False)


class Arguments(ArgumentChecks, unittest.TestCase):
    def test_wrong_arguments(self):
        wrong = (NARROW[:3], (0, 1, 1, False), (17, 1, 1, False), (2, 9, 1, False), (2, 1, 0, True), (2, 1, 1, 0))
        for function in (are_sound, window_harm):
            self.check_arguments(function, (NARROW,), (InvalidSizes,), (wrong,))
        self.check_arguments(is_harm, (NARROW, HARM), (InvalidSizes, None), (wrong, ()))


if __name__ == "__main__":
    unittest.main()
