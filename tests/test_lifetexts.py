"""[85]: events and tales as texts, and of [3] that they come back the same."""

import random
import unittest

from heardonce.errors import InvalidEvent, InvalidTale, InvalidText
from heardonce.events import happened_all
from heardonce.lifetales import is_tale, told_back, told_on, world_of
from heardonce.lifetexts import event_text, read_event, read_tale, tale_text
from heardonce.worlds import fresh_world
from tests.arguments import ArgumentChecks
from tests.runs import HARSH, MANNERS, NAMES, some_run
from tests.values import ODD_VALUES, bent

TEXTS = {
    "give ann paired a/b 7": ("give", "ann", "paired", "a/b", 7),
    "give z light a/b/c/d/e 0": ("give", "z", "light", "a/b/c/d/e", 0),
    "give abcdef marked wish 999": ("give", "abcdef", "marked", "wish", 999),
    "wish bob a/+/# paired": ("wish", "bob", "a/+/#", "paired"), "unwish bob #": ("unwish", "bob", "#"),
    "pass ann": ("pass", "ann"), "arrive ann going": ("arrive", "ann", "going"),
    "lose bob coming 11": ("lose", "bob", "coming", 11), "double bob going 3": ("double", "bob", "going", 3),
    "turn bob going 0": ("turn", "bob", "going", 0), "again ann coming 7": ("again", "ann", "coming", 7),
    "write -": ("write", ""), "write stop": ("write", "stop"), "stop -": ("stop", ""), "stop ann": ("stop", "ann"),
}
TALE = ((2, True, False), ("ann", "bob"), (("wish", "bob", "a/#", "paired"), ("give", "ann", "light", "a", 0)))
TEXT = "2 yes no ann bob\nwish bob a/# paired\ngive ann light a 0"


def bent_texts(text):
    """Texts that differ at one place from a text of a tale or an event."""
    found = [text + " ", " " + text, text + "\n", "\n" + text, text.upper(), text + "\t", text[:-1], text[1:], ""]
    for at, sign in enumerate(text):
        if sign == " ":
            found += [text[:at] + "  " + text[at + 1:], text[:at] + "\t" + text[at + 1:], text[:at] + text[at + 1:]]
            found += [text[:at] + "\n" + text[at + 1:], text[:at] + "," + text[at + 1:]]
        if sign.isdigit():
            found += [text[:at] + "0" + text[at:], text[:at] + "+" + text[at:], text[:at] + "-" + text[at:]]
            found += [text[:at] + sign + ".0" + text[at + 1:], text[:at] + "_" + text[at:], text[:at] + text[at + 1:]]
        if sign == "\n":
            found += [text[:at] + "\n\n" + text[at + 1:], text[:at] + "\r\n" + text[at + 1:], text[:at] + text[at + 1:]]
            found += [text[:at] + " \n" + text[at + 1:], text[:at] + "\n " + text[at + 1:]]
        found += [text[:at] + "-" + text[at + 1:], text[:at] + "A" + text[at + 1:]] if sign != "-" else []
    return [other for other in found if other != text]


class Events(unittest.TestCase):
    def test_there_and_back(self):
        for text, event in TEXTS.items():
            self.assertEqual(event_text(event), text)
            self.assertEqual(read_event(text), event)

    def test_bent(self):
        for text in TEXTS:
            for other in bent_texts(text):
                if other not in ("write -", "stop -", "write sto", "stop an", "pass an"):
                    self.check_bent(other, text)

    def check_bent(self, other, text):
        """What still can be read is the text of another event of the same length."""
        try:
            event = read_event(other)
        except InvalidText:
            return
        self.assertEqual(event_text(event), other)
        self.assertEqual(len(event), len(TEXTS[text]))

    def test_none(self):
        for text in (
            "", " ", "-", "give", "give ann paired a/b", "give ann paired a/b 7 8", "give ann paired a/b 07",
            "give ann paired a/b 1000", "give ann paired a/b -7", "give ann paired a/b +7", "give ann paired a/b 7 ",
            "give ann paired a/b 7\n", "give ann paired a/+ 7", "give ann heavy a/b 7", "give - paired a/b 7",
            "give  ann paired a/b 7", "Give ann paired a/b 7", "ann give paired a/b 7", "give ann paired a/b seven",
            "pass -", "pass", "pass ", "arrive ann", "arrive ann there", "arrive - going", "lose bob coming 12",
            "lose bob coming 00", "lose bob coming", "again ann coming 8", "write", "write ", "write --",
            "stop ann bob",
            "wish bob #/a paired", "wish bob a/# -", "unwish bob -", "hello ann yes", "None", "take ann 1",
        ):
            self.assertRaises(InvalidText, read_event, text)

    def test_any_value(self):
        for value in list(ODD_VALUES) + list(TEXTS.values()) + [["pass ann"], ("pass ann",), 7]:
            self.assertRaises(InvalidText, read_event, value)
            self.assertRaises(InvalidText, read_tale, value)

    def test_all_events_of_rows(self):
        dice = random.Random(85)
        for manner in MANNERS:
            events, _ = some_run(dice, manner, 80, HARSH)
            for event in events:
                self.assertEqual(read_event(event_text(event)), event)
                self.assertEqual(len(event_text(event).split(" ")), len(event))


class Tales(unittest.TestCase):
    def test_there_and_back(self):
        self.assertEqual(tale_text(TALE), TEXT)
        self.assertEqual(read_tale(TEXT), TALE)
        for tale, text in (
            (((8, False, True), ("z",), ()), "8 no yes z"),
            (((1, True, True), ("a", "b", "c"), (("stop", ""), ("write", "b"))), "1 yes yes a b c\nstop -\nwrite b"),
        ):
            self.assertEqual(tale_text(tale), text)
            self.assertEqual(read_tale(text), tale)

    def test_bent(self):
        for other in bent_texts(TEXT):
            try:
                tale = read_tale(other)
            except InvalidText:
                continue
            self.assertEqual(tale_text(tale), other)
            self.assertIs(is_tale(tale), True)

    def test_none(self):
        for text in (
            "", "2", "2 yes", "2 yes no", "2 yes no ", "2 Yes no ann bob", "2 yes maybe ann", "2 True no ann",
            "0 yes no ann", "9 yes no ann", "02 yes no ann", "2 yes no bob ann", "2 yes no ann ann",
            "2 yes no a b c d e", "2 yes no -", "2 yes no ann\n", "\n2 yes no ann", "2 yes no ann\n\nwrite -",
            "2 yes no ann\nwrite -\n", "2 yes no ann\nwrite bob", "2 yes no ann\npass ann",
            "2 yes no ann\nwrite - ", "2 yes no ann\narrive ann coming", "2 yes no ann \nwrite -", "2 yes no ann,bob",
            "ann 2 yes no", "yes no 2 ann", "2 yes no ann\r\nwrite -", "-2 yes no ann", "+2 yes no ann",
            "2.0 yes no ann",
        ):
            self.assertRaises(InvalidText, read_tale, text)

    def test_many_events(self):
        text = "\n".join(["1 yes yes a"] + ["write -"] * 200)
        self.assertEqual(len(read_tale(text)[2]), 200)
        self.assertEqual(tale_text(read_tale(text)), text)
        self.assertRaises(InvalidText, read_tale, text + "\nwrite -")

    def test_to_the_same_worlds(self):
        dice = random.Random(86)
        for manner in MANNERS:
            events, model = some_run(dice, manner, 80, HARSH)
            tale = (manner, NAMES, events)
            read = read_tale(tale_text(tale))
            self.assertEqual(read, tale)
            self.assertEqual(world_of(read), model.world())
            many = dice.randrange(len(events) + 1)
            again = told_on(read_tale(tale_text(told_back(read, many))), events[len(events) - many:])
            self.assertEqual(world_of(again), happened_all(fresh_world(manner, NAMES), events))


class Arguments(ArgumentChecks, unittest.TestCase):
    def test_wrong_arguments(self):
        events = tuple(bent(("lose", "bob", "coming", 3)))
        self.check_arguments(event_text, (("stop", ""),), (InvalidEvent,), (events,))
        self.check_arguments(tale_text, (TALE,), (InvalidTale,), ((TALE[:2], TEXT, ()),))


if __name__ == "__main__":
    unittest.main()
