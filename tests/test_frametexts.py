"""[7] and [51]: the texts of frames."""

import unittest

from heardonce.errors import InvalidFrame, InvalidText
from heardonce.frames import is_frame
from heardonce.frametexts import frame_text, read_text
from tests.arguments import ArgumentChecks
from tests.test_frames import FRAMES, LONG_FRAMES
from tests.values import ODD_VALUES

TEXTS = (
    (("hello", "ann", True), "hello ann yes"), (("hello", "yes", False), "hello yes no"),
    (("welcome", True), "welcome yes"), (("welcome", False), "welcome no"),
    (("wish", 7, "a/+/#", "marked"), "wish 7 a/+/# marked"), (("wished", 5), "wished 5"),
    (("unwish", 0, "#"), "unwish 0 #"), (("unwished", 0), "unwished 0"),
    (("word", "light", None, False, "light", 0), "word light - no light 0"),
    (("word", "marked", 3, True, "a/b", 999), "word marked 3 yes a/b 999"),
    (("word", "paired", 0, False, "word", 10), "word paired 0 no word 10"),
    (("heard", 3), "heard 3"), (("taken", 7), "taken 7"), (("let", 0), "let 0"), (("done", 6), "done 6"),
    (("bye",), "bye"),
)


class Texts(unittest.TestCase):
    def check_no_text(self, value):
        with self.assertRaises(InvalidText, msg=repr(value)):
            read_text(value)

    def test_each_kind(self):
        self.assertEqual(len({frame[0] for frame, _ in TEXTS}), 12)
        for frame, text in TEXTS:
            self.assertEqual(frame_text(frame), text)
            self.assertEqual(read_text(text), frame)
            self.assertEqual([type(item) for item in read_text(text)], [type(item) for item in frame])

    def test_there_and_back(self):
        for frame in FRAMES + LONG_FRAMES[:2]:
            self.assertEqual(read_text(frame_text(frame)), frame)
            self.assertEqual(frame_text(read_text(frame_text(frame))), frame_text(frame))

    def test_all_bodies_and_numbers(self):
        for body in range(1000):
            self.assertEqual(read_text(f"word light - no a {body}"), ("word", "light", None, False, "a", body))
        for number in range(8):
            self.assertEqual(read_text(f"let {number}"), ("let", number))
        for number in ("8", "-1", "10", "07", "+1", "", "x", "1.0", "1_0"):
            self.check_no_text(f"let {number}")
            self.check_no_text(f"word paired {number} yes a 1")
        for body in ("1000", "-1", "007", "00", "+1", "", "x", "-", "1_0", "9999999"):
            self.check_no_text(f"word light - no a {body}")

    def test_one_sign_more(self):
        for _, text in TEXTS:
            for at in range(len(text) + 1):
                for sign in (" ", "\n", "A", "-", "_", "\t", ".", "\r"):
                    self.check_no_text(text[:at] + sign + text[at:])

    def test_one_sign_else(self):
        for _, text in TEXTS:
            for at, old in enumerate(text):
                for sign in " \nA-#+/a0159_":
                    other = text[:at] + sign + text[at + 1:]
                    if sign != old:
                        self.check_else(other)

    def check_else(self, value):
        """A text with one sign else is another frame's, or none."""
        try:
            frame = read_text(value)
        except InvalidText:
            return
        self.assertTrue(is_frame(frame))
        self.assertEqual(frame_text(frame), value)

    def test_one_sign_less(self):
        for _, text in TEXTS:
            for at in range(len(text)):
                self.check_else(text[:at] + text[at + 1:])

    def test_other_cases_and_zeros(self):
        for frame, text in TEXTS:
            self.check_no_text(text.upper())
            self.check_no_text(text.title())
            self.check_no_text(text + "\n")
            self.check_no_text(" " + text)
            self.check_no_text(text + " ")
            self.check_no_text(text + " 1")
            if isinstance(frame[-1], int) and not isinstance(frame[-1], bool):
                words = text.split(" ")
                self.check_no_text(" ".join(words[:-1] + ["0" + words[-1]]))

    def test_items_of_other_words(self):
        for value in (
            "", " ", "word", "hello", "hello ann", "hello ann True", "hello ann 1", "welcome maybe", "welcome -",
            "word light 0 no a 1", "word light - yes a 1", "word paired - no a 1", "word light None no a 1",
            "wish 1 a/#", "wish - a light", "let -", "bye bye", "byes", "hello  yes", "hello ann/bob yes",
            "word marked 1 no a/+ 1", "word bright 1 no a 1", "heard yes", "('bye',)",
        ):
            self.check_no_text(value)

    def test_other_values(self):
        for value in ODD_VALUES + (("bye",), ["bye"], b"bye", 12):
            self.check_no_text(value)


class Arguments(ArgumentChecks, unittest.TestCase):
    def test_wrong_arguments(self):
        self.check_arguments(frame_text, (("bye",),), (InvalidFrame,), ((["bye"], ("bye", 1), "bye"),))
        self.check_arguments(read_text, ("bye",), (InvalidText,), ((("bye",), "bye\n"),))


if __name__ == "__main__":
    unittest.main()
