"""[19], [20], [60]: windows."""

import random
import unittest

from heardonce.errors import CannotHappen, InvalidEvents, InvalidSizes
from heardonce.windows import are_sizes, behind_event, window_behind, window_events
from tests.arguments import ArgumentChecks
from tests.values import ODD_VALUES, bent, replaced

SIZES = (4, 3, 2, True)
GIVE, WORD, ANSWER = ("give",), ("word",), ("answer",)
ALL_EVENTS = (GIVE, WORD, ANSWER) + tuple(("again", index) for index in range(81)) + tuple(
    (word, side, at) for word in ("lose", "double", "turn") for side in ("there", "back") for at in range(12)
)


class Impossible(Exception):
    """A window event can't happen."""


class Model:
    """A second telling of windows, by an object that changes."""

    def __init__(self, sizes):
        self.ring, self.giving, self.taking, self.turned = sizes
        self.base = self.upto = self.place = 0
        self.kept, self.rows, self.harmed = set(), {"there": [], "back": []}, False

    def state(self):
        rows = tuple(self.rows["there"]), tuple(self.rows["back"])
        return (self.base, self.upto, self.place, tuple(sorted(self.kept))) + rows + (self.harmed,)

    def copy(self):
        model = Model((self.ring, self.giving, self.taking, self.turned))
        model.base, model.upto, model.place, model.harmed = self.base, self.upto, self.place, self.harmed
        model.kept, model.rows = set(self.kept), {side: list(row) for side, row in self.rows.items()}
        return model

    def need(self, is_so):
        if not is_so:
            raise Impossible

    def behind(self, event):
        model = self.copy()
        getattr(model, "do_" + event[0])(*event[1:])
        numbers = [model.base, model.upto, model.place, *model.kept, *model.rows["there"], *model.rows["back"]]
        self.need(max(numbers) <= 80 and max(len(row) for row in model.rows.values()) <= 12)
        return model

    def do_give(self):
        self.need(self.upto < self.base + self.giving)
        self.rows["there"].append(self.upto)
        self.upto += 1

    def do_again(self, index):
        self.need(self.base <= index < self.upto)
        self.rows["there"].append(index)

    def do_word(self):
        self.need(self.rows["there"])
        index = self.rows["there"].pop(0)
        told = self.place
        while told % self.ring != index % self.ring:
            told += 1
        if told < self.place + self.taking and told not in self.kept:
            self.kept.add(told)
            self.harmed |= told != index
            while self.place in self.kept:
                self.kept.remove(self.place)
                self.place += 1
        self.rows["back"].append(self.place)

    def do_answer(self):
        self.need(self.rows["back"])
        place = self.rows["back"].pop(0)
        told = self.base
        while told % self.ring != place % self.ring:
            told += 1
        if self.base < told <= self.upto:
            self.base = told
            self.harmed |= told != place

    def do_lose(self, side, at):
        self.need(at < len(self.rows[side]))
        self.rows[side].pop(at)

    def do_double(self, side, at):
        self.need(at < len(self.rows[side]))
        self.rows[side].insert(at, self.rows[side][at])

    def do_turn(self, side, at):
        row = self.rows[side]
        self.need(self.turned and at + 1 < len(row))
        row[at:at + 2] = row[at:at + 2][::-1]


class Sizes(unittest.TestCase):
    def test_bounds(self):
        for at, most in ((0, 16), (1, 8), (2, 8)):
            for value, is_one in ((0, False), (1, True), (most, True), (most + 1, False), (True, False)):
                self.assertIs(are_sizes(replaced(SIZES, (at,), value)), is_one)
        for value, is_one in ((True, True), (False, True), (0, False), (1, False), (None, False)):
            self.assertIs(are_sizes(replaced(SIZES, (3,), value)), is_one)

    def test_other_kinds(self):
        for other in bent(SIZES) + [SIZES[:3], SIZES + (1,), list(SIZES), ()] + list(ODD_VALUES):
            self.assertIs(are_sizes(other), False, other)


class WindowEvents(unittest.TestCase):
    def check_cannot(self, sizes, events, event):
        window_behind(sizes, events)
        self.assertNotIn(event, window_events(sizes, events))
        with self.assertRaises(CannotHappen):
            window_behind(sizes, events + (event,))
        with self.assertRaises(CannotHappen):
            window_events(sizes, events + (event,))

    def test_give(self):
        for giving in range(1, 9):
            sizes = (16, giving, 1, False)
            self.assertEqual(window_behind(sizes, (GIVE,) * giving)[1], giving)
            self.assertEqual(window_behind(sizes, (GIVE,) * giving)[4], tuple(range(giving)))
            self.check_cannot(sizes, (GIVE,) * giving, GIVE)

    def test_give_behind_an_answer(self):
        events = (GIVE, WORD, ANSWER, GIVE)
        self.assertEqual(window_behind((2, 1, 1, False), events), (1, 2, 1, (), (1,), (), False))

    def test_again(self):
        self.assertEqual(window_behind(SIZES, (GIVE, GIVE, ("again", 0)))[4], (0, 1, 0))
        self.assertEqual(window_behind(SIZES, (GIVE, GIVE, ("again", 1)))[4], (0, 1, 1))
        self.check_cannot(SIZES, (GIVE, GIVE), ("again", 2))
        self.check_cannot(SIZES, (), ("again", 0))
        self.check_cannot(SIZES, (GIVE, GIVE, WORD, ANSWER), ("again", 0))
        self.check_cannot(SIZES, (GIVE,), ("again", 80))

    def test_words_kept(self):
        events = (GIVE, GIVE, GIVE, ("lose", "there", 0))
        self.assertEqual(window_behind((8, 3, 3, False), events + (WORD, WORD)), (0, 3, 0, (1, 2), (), (0, 0), False))
        self.assertEqual(
            window_behind((8, 3, 3, False), events + (WORD, WORD, ("again", 0), WORD)),
            (0, 3, 3, (), (), (0, 0, 3), False),
        )
        self.assertEqual(window_behind((8, 3, 2, False), events + (WORD, WORD))[2:6], (0, (1,), (), (0, 0)))
        self.assertEqual(window_behind((8, 3, 1, False), events + (WORD, WORD))[2:6], (0, (), (), (0, 0)))
        twice = events + (WORD, ("again", 1), WORD, WORD)
        self.assertEqual(window_behind((8, 3, 3, False), twice), (0, 3, 0, (1, 2), (), (0, 0, 0), False))

    def test_harmed_by_a_word(self):
        events = (GIVE, WORD, ("again", 0), WORD)
        self.assertEqual(window_behind((1, 1, 1, False), events), (0, 1, 2, (), (), (1, 2), True))
        self.assertEqual(window_behind((2, 1, 1, False), events), (0, 1, 1, (), (), (1, 1), False))
        self.assertEqual(window_behind((2, 1, 2, False), events), (0, 1, 1, (2,), (), (1, 1), True))

    def test_harmed_by_an_answer(self):
        # A late answer with the place 1 is taken for 3, which has the same rest.
        events = (GIVE, GIVE, WORD, ("double", "back", 0), WORD, ANSWER, ("turn", "back", 0), ANSWER)
        self.assertEqual(window_behind((2, 2, 1, True), events), (2, 2, 2, (), (), (1,), False))
        self.assertEqual(window_behind((2, 2, 1, True), events + (GIVE, ANSWER))[0::6], (3, True))
        self.assertEqual(window_behind((2, 2, 1, True), events + (ANSWER,))[0::6], (2, False))
        self.assertEqual(window_behind((3, 2, 1, True), events + (GIVE, ANSWER))[0::6], (2, False))

    def test_answers_that_tell_nothing(self):
        self.assertEqual(window_behind(SIZES, (GIVE, WORD, ("double", "back", 0), ANSWER, ANSWER))[0], 1)
        self.assertEqual(window_behind((8, 3, 3, False), (GIVE, GIVE, ("lose", "there", 0), WORD, ANSWER))[0], 0)

    def test_nothing_there(self):
        self.check_cannot(SIZES, (), WORD)
        self.check_cannot(SIZES, (), ANSWER)
        self.check_cannot(SIZES, (GIVE,), ANSWER)
        for word in ("lose", "double", "turn"):
            for side in ("there", "back"):
                self.check_cannot(SIZES, (), (word, side, 0))
        self.check_cannot(SIZES, (GIVE, GIVE), ("lose", "there", 2))
        self.check_cannot(SIZES, (GIVE, GIVE), ("double", "there", 2))
        self.check_cannot(SIZES, (GIVE, GIVE), ("turn", "there", 1))

    def test_turns(self):
        events = (GIVE, GIVE, GIVE)
        self.assertEqual(window_behind(SIZES, events + (("turn", "there", 1),))[4], (0, 2, 1))
        self.assertEqual(window_behind(SIZES, events + (("turn", "there", 0),))[4], (1, 0, 2))
        unturned = SIZES[:3] + (False,)
        self.check_cannot(unturned, events, ("turn", "there", 0))
        self.check_cannot(unturned, (GIVE, WORD, ("double", "back", 0)), ("turn", "back", 0))

    def test_twelve_in_a_tuple(self):
        full = (GIVE,) + (("again", 0),) * 11
        self.assertEqual(len(window_behind(SIZES, full)[4]), 12)
        self.check_cannot(SIZES, full, GIVE)
        self.check_cannot(SIZES, full, ("again", 0))
        self.check_cannot(SIZES, full, ("double", "there", 11))
        self.assertEqual(len(window_behind(SIZES, full[:-1] + (("double", "there", 10),))[4]), 12)
        self.assertEqual(len(window_behind(SIZES, full + (("lose", "there", 11),))[4]), 11)
        answers = (GIVE, WORD) + (("double", "back", 0),) * 11
        self.assertEqual(len(window_behind(SIZES, answers + (GIVE,))[5]), 12)
        self.check_cannot(SIZES, answers + (GIVE,), WORD)
        self.check_cannot(SIZES, answers, ("double", "back", 0))

    def test_no_integer_above_eighty(self):
        # So far no 200 events lead from the first state on.
        for state, event, told in (
            ((72, 79, 72, (), (), (), False), GIVE, (72, 80, 72, (), (79,), (), False)),
            ((72, 80, 72, (), (), (), False), GIVE, None),
            ((72, 80, 79, (), (79,), (), False), WORD, (72, 80, 80, (), (), (80,), False)),
            ((72, 80, 80, (), (64,), (), False), WORD, None),
            ((72, 80, 73, (), (79,), (), False), WORD, (72, 80, 73, (79,), (), (73,), False)),
            ((72, 80, 74, (), (65,), (), False), WORD, None),
            ((72, 80, 74, (), (64,), (), False), WORD, (72, 80, 74, (80,), (), (74,), True)),
            ((72, 80, 79, (80,), (79,), (), False), WORD, None),
            ((72, 80, 80, (), (), (80,), False), ANSWER, (80, 80, 80, (), (), (), False)),
        ):
            self.assertEqual(behind_event((16, 8, 8, True), state, event), told, (state, event))

    def test_as_far_as_events_lead(self):
        round_trip = (GIVE, WORD, ANSWER)
        self.assertEqual(window_behind((16, 1, 1, False), round_trip * 66), (66, 66, 66, (), (), (), False))
        eight = (GIVE,) * 8 + (WORD,) * 8 + (("lose", "back", 0),) * 7 + (ANSWER,)
        self.assertEqual(window_behind((16, 8, 8, False), eight * 8), (64, 64, 64, (), (), (), False))
        harmed = (GIVE, ("double", "there", 0)) + (WORD, ("again", 0), ("lose", "back", 0)) * 60
        self.assertEqual(window_behind((1, 1, 1, False), harmed)[2], 60)


class BesideModel(unittest.TestCase):
    def some_events(self, dice, many):
        """The sizes, and a row of window events with the models behind each of them."""
        sizes = (dice.randrange(1, 17), dice.randrange(1, 9), dice.randrange(1, 9), bool(dice.randrange(2)))
        if dice.randrange(2):
            sizes = (dice.randrange(1, 5),) + sizes[1:]
        model, events = Model(sizes), []
        for _ in range(many):
            event = dice.choice((GIVE, GIVE, WORD, WORD, ANSWER, dice.choice(ALL_EVENTS), self.near(dice, model)))
            try:
                model = model.behind(event)
            except Impossible:
                continue
            events.append(event)
        return sizes, tuple(events[:200]), model

    def near(self, dice, model):
        if dice.randrange(2):
            return ("again", dice.randrange(model.base, model.upto + 1))
        return (dice.choice(("lose", "double", "turn")), dice.choice(("there", "back")), dice.randrange(4))

    def test_rows(self):
        dice = random.Random(1)
        for _ in range(150):
            sizes, events, _ = self.some_events(dice, dice.randrange(280))
            model = Model(sizes)
            for event in events:
                model = model.behind(event)
            self.assertEqual(window_behind(sizes, events), model.state())
            possible = []
            for event in ALL_EVENTS:
                try:
                    model.behind(event)
                    possible.append(event)
                except Impossible:
                    pass
            self.assertEqual(window_events(sizes, events), sorted(possible))


class Arguments(ArgumentChecks, unittest.TestCase):
    def test_wrong_arguments(self):
        wrong_sizes = (SIZES[:3], list(SIZES), (17, 1, 1, True), (1, 9, 1, True), (1, 1, 9, True), (1, 1, 1, 0))
        wrong_events = tuple((GIVE, event) for event in (
            ("give", 0), ("again",), ("again", 81), ("again", -1), ("again", False), ("word", 1), ("lose", "there"),
            ("lose", "there", 12), ("lose", "there", -1), ("lose", "there", True), ("double", "coming", 0),
            ("turn", "back", None), ("stop",), ("stop", "there", 0), ("lost", "back", 1), ("give", "there", 0), (), None,
            "give", ["give"], ("lose", ["there"], 0),
        )) + ((GIVE,) * 201, [GIVE], GIVE)
        for function in (window_behind, window_events):
            self.check_arguments(
                function, (SIZES, (GIVE,)), (InvalidSizes, InvalidEvents), (wrong_sizes, wrong_events),
            )

    def test_wrong_events_ahead_of_impossible_ones(self):
        for function in (window_behind, window_events):
            self.check_error(function, (SIZES, (ANSWER, ("answer", 1))), InvalidEvents)
            self.check_error(function, (SIZES, (ANSWER,) * 201), InvalidEvents)
            self.check_error(function, (SIZES, (ANSWER,) * 200), CannotHappen)


if __name__ == "__main__":
    unittest.main()
