"""[5], [6], [50], and of [3] that cut octets are joined to the same frames."""

import random
import unittest

from heardonce.errors import InvalidFrame, InvalidOctets
from heardonce.frames import frame_octets, is_frame, joined, read_all, read_frame
from tests.arguments import ArgumentChecks
from tests.octets import fault_at
from tests.values import ODD_VALUES, bent, replaced

FRAMES = (
    ("hello", "ann", True), ("hello", "zzzzzz", False), ("hello", "light", True), ("welcome", True),
    ("welcome", False), ("wish", 7, "a/+/#", "marked"), ("wish", 0, "#", "light"), ("wish", 3, "+", "paired"),
    ("wished", 5), ("unwish", 2, "abc/d"), ("unwish", 0, "+/+/+/+/#"), ("unwished", 0),
    ("word", "paired", 1, True, "a/b", 300), ("word", "light", None, False, "a", 7),
    ("word", "marked", 7, False, "ab/cd", 999), ("word", "marked", 0, True, "q", 0), ("heard", 3), ("taken", 7),
    ("let", 0), ("done", 6), ("bye",),
)
LONG = "/".join(["abcdef"] * 5)
LONG_FRAMES = (
    ("word", "light", None, False, LONG, 256), ("wish", 1, LONG, "light"), ("unwish", 1, LONG[:-2] + "#"),
    ("word", "paired", 1, False, LONG[1:], 767), ("unwish", 4, "abcdef/abcdef/abcdef/abcdef/+"),
)


def all_octets(frames):
    return sum([frame_octets(frame) for frame in frames], ())


class Frames(unittest.TestCase):
    def test_frames(self):
        for frame in FRAMES + LONG_FRAMES[:2]:
            self.assertIs(is_frame(frame), True, frame)

    def test_items_of_other_kinds(self):
        for frame in FRAMES:
            for other in bent(frame):
                self.assertIs(is_frame(other), False, other)

    def test_items_just_outside(self):
        for frame in FRAMES:
            for at, item in enumerate(frame):
                if isinstance(item, int) and not isinstance(item, bool):
                    most = 999 if frame[0] == "word" and at == 5 else 7
                    for value, is_one in ((-1, False), (0, True), (most, True), (most + 1, False)):
                        self.assertEqual(is_frame(replaced(frame, (at,), value)), is_one)
        for frame in (("hello", "abcdefg", True), ("hello", "", True), ("hello", "a/b", True), ("hello", "+", True)):
            self.assertFalse(is_frame(frame))
        for topic in ("a/+", "#", "a/b/c/d/e/f", "abcdefg", ""):
            self.assertFalse(is_frame(("word", "marked", 1, False, topic, 1)))
        for wish in ("#/a", "a/b/c/d/e/#", "a+", "", "abcdefg"):
            self.assertFalse(is_frame(("wish", 1, wish, "light")))
            self.assertFalse(is_frame(("unwish", 1, wish)))

    def test_numbers_of_words(self):
        for way, number, again, is_one in (
            ("light", None, False, True), ("light", None, True, False), ("light", 0, False, False),
            ("marked", None, False, False), ("paired", None, True, False), ("marked", 0, False, True),
            ("paired", 7, True, True), ("bright", 1, True, False), (None, 1, True, False),
        ):
            self.assertEqual(is_frame(("word", way, number, again, "a", 1)), is_one)

    def test_items_more_or_less(self):
        for frame in FRAMES:
            self.assertFalse(is_frame(frame + (0,)))
            self.assertFalse(is_frame(frame[1:]))
            self.assertFalse(is_frame(frame[:-1]))

    def test_words(self):
        for word in ("", "Bye", "byes", "goodbye", 12, None, ["bye"], ("bye",)):
            self.assertFalse(is_frame((word,)))
        for word in ("wished", "unwished", "heard", "taken", "let", "done"):
            self.assertTrue(is_frame((word, 7)))
            self.assertFalse(is_frame((word,)))
        for word in ("hello", "welcome", "wish", "unwish", "word", "bye"):
            self.assertFalse(is_frame((word, 7)))

    def test_odd_values(self):
        for value in ODD_VALUES + ((), "bye", ["bye"]):
            self.assertIs(is_frame(value), False)


class Octets(unittest.TestCase):
    def test_kinds(self):
        kinds = {frame_octets(frame)[0]: frame[0] for frame in FRAMES}
        words = ["hello", "welcome", "wish", "wished", "unwish", "unwished", "word", "heard", "taken", "let", "done"]
        self.assertEqual(kinds, dict(enumerate(words + ["bye"], 1)))

    def test_octets_told_one_by_one(self):
        for frame, octets in (
            (("hello", "ann", True), (1, 5, 3, 97, 110, 110, 1)), (("welcome", False), (2, 1, 0)),
            (("wish", 7, "a/+/#", "marked"), (3, 8, 7, 5, 97, 47, 43, 47, 35, 1)), (("wished", 5), (4, 1, 5)),
            (("unwish", 2, "b"), (5, 3, 2, 1, 98)), (("unwished", 0), (6, 1, 0)), (("taken", 7), (9, 1, 7)),
            (("word", "marked", 0, True, "z", 999), (7, 7, 1, 0, 1, 1, 122, 3, 231)), (("let", 1), (10, 1, 1)),
            (("done", 6), (11, 1, 6)), (("word", "light", None, False, "a", 256), (7, 7, 0, 8, 0, 1, 97, 1, 0)),
        ):
            self.assertEqual(frame_octets(frame), octets)

    def test_there_and_back(self):
        for frame in FRAMES + LONG_FRAMES[:2] + LONG_FRAMES[3:]:
            octets = frame_octets(frame)
            self.assertTrue(all(type(octet) is int for octet in octets))
            self.assertEqual(octets[1], len(octets) - 2)
            self.assertEqual(read_frame(octets), (frame, len(octets)))
            self.assertEqual(read_frame(octets + (255,)), (frame, len(octets)))
            self.assertEqual([type(item) for item in read_frame(octets)[0]], [type(item) for item in frame])

    def test_all_bodies(self):
        for body in range(1000):
            frame = ("word", "marked", 1, False, "a", body)
            self.assertEqual(frame_octets(frame)[-2:], divmod(body, 256))
            self.assertEqual(read_frame(frame_octets(frame))[0], frame)

    def test_cut_at_each_place(self):
        for frame in FRAMES + LONG_FRAMES[:2]:
            octets = frame_octets(frame)
            for at in range(len(octets)):
                self.assertIsNone(read_frame(octets[:at]))
                self.assertEqual(read_all(octets[:at]), ([], octets[:at]))

    def check_like_told(self, octets):
        at = fault_at(octets)
        if at is None:
            read = read_frame(octets)
            if read is not None:
                self.assertTrue(is_frame(read[0]))
                self.assertEqual(frame_octets(read[0]), octets[:read[1]])
            else:
                self.assertLess(len(octets), 2 if len(octets) < 2 else octets[1] + 2)
        else:
            for call in (read_frame, read_all, lambda row: joined((row[:1], row[1:]))):
                with self.assertRaises(InvalidOctets, msg=octets) as caught:
                    call(octets)
                self.assertEqual(caught.exception.at, at, octets)

    def test_each_octet_replaced(self):
        for frame in FRAMES:
            octets = frame_octets(frame)
            for at in range(len(octets)):
                for octet in range(256):
                    self.check_like_told(octets[:at] + (octet,) + octets[at + 1:])

    def test_octets_of_long_texts_replaced(self):
        for frame in (LONG_FRAMES[0], LONG_FRAMES[3], LONG_FRAMES[4]):
            octets = frame_octets(frame)
            for at in range(len(octets)):
                for octet in (0, 1, 2, 7, 8, 35, 43, 47, 96, 97, 122, 123, 255):
                    self.check_like_told(octets[:at] + (octet,) + octets[at + 1:])

    def test_texts_of_each_length(self):
        dice = random.Random(4)
        for many in range(1, 15):
            for begin, end in (((5, many + 2, 0), ()), ((7, many + 6, 2, 1, 0), (1, 7))):
                for _ in range(60):
                    signs = tuple(dice.choice((97,) * 8 + (122, 47, 47, 43, 35)) for _ in range(many))
                    self.check_like_told(begin + (many,) + signs + end)

    def test_octets_replaced_and_cut(self):
        dice = random.Random(3)
        for _ in range(4000):
            octets = list(frame_octets(dice.choice(FRAMES)))
            for _ in range(dice.randrange(3)):
                octets[dice.randrange(len(octets))] = dice.choice((0, 1, 2, 3, 5, 7, 8, 35, 43, 47, 97, 200))
            self.check_like_told(tuple(octets[:dice.randrange(len(octets) + 1)]))

    def test_begins_of_kinds(self):
        for kind in range(256):
            self.check_like_told((kind,))
            for length in range(256 if kind <= 13 else 3):
                if length <= 14 or not 3 <= kind <= 7:
                    self.check_like_told((kind, length))

    def test_lengths_of_texts(self):
        for many in range(256):
            for kind, rest, most in ((1, 2, 6), (3, 3, 34), (5, 2, 34), (7, 6, 34)):
                if 1 <= many - rest <= most:
                    self.assertIsNone(read_frame((kind, many)))
                else:
                    with self.assertRaises(InvalidOctets) as caught:
                        read_frame((kind, many))
                    self.assertEqual(caught.exception.at, 1)

    def test_places_told(self):
        for octets, at in (
            ((0,), 0), ((13,), 0), ((8, 2), 1), ((8, 1, 8), 2), ((12, 1), 1), ((1, 2), 1), ((1, 9), 1),
            ((1, 5, 2), 2), ((1, 5, 3, 47), 3), ((1, 3, 1, 97, 2), 4), ((5, 4, 0, 2, 97, 47), 5), ((5, 4, 0, 2, 35), 4),
            ((5, 4, 0, 2, 43), 4), ((5, 5, 0, 3, 43, 97), 5), ((7, 7, 0, 0), 3), ((7, 7, 1, 8), 3),
            ((7, 7, 0, 8, 1), 4), ((7, 7, 1, 1, 2), 4), ((7, 7, 3), 2), ((7, 7, 1, 1, 1, 1, 97, 4), 7),
            ((7, 7, 1, 1, 1, 1, 97, 3, 232), 8), ((5, 10, 0, 8) + (97,) * 7, 10), ((3, 4, 0, 1, 35, 3), 5),
            ((5, 36, 0, 34, 97, 47), 5), ((7, 7, 1, 1, 1, 1, 43), 6), ((7, 8, 1, 1, 1, 2, 97, 47), 7),
            ((5, 9, 0, 7) + (97,) * 6, 9), ((5, 16, 0, 14) + (97,) * 6 + (47,) + (97,) * 6, 16),
        ):
            for call in (read_frame, read_all):
                with self.assertRaises(InvalidOctets) as caught:
                    call(octets)
                self.assertEqual(caught.exception.at, at, octets)
                self.assertIsNone(read_frame(octets[:at]))


class Joined(unittest.TestCase):
    def test_many_frames(self):
        octets = all_octets(FRAMES)
        self.assertEqual(read_all(octets), (list(FRAMES), ()))
        self.assertEqual(read_all(()), ([], ()))
        for many in range(len(FRAMES)):
            self.assertEqual(read_all(all_octets(FRAMES[:many]) + (7, 7)), (list(FRAMES[:many]), (7, 7)))

    def test_cut_anywhere(self):
        octets = all_octets(FRAMES)
        dice = random.Random(5)
        for _ in range(300):
            cuts = sorted(dice.randrange(len(octets) + 1) for _ in range(dice.randrange(99)))
            pieces = tuple(octets[one:other] for one, other in zip([0] + cuts, cuts + [len(octets)]))
            self.assertEqual(joined(pieces), (list(FRAMES), ()))

    def test_cut_at_each_place(self):
        octets = all_octets(FRAMES)
        for at in range(len(octets) + 1):
            self.assertEqual(joined((octets[:at], octets[at:])), (list(FRAMES), ()))
            self.assertEqual(joined((octets[:at],)), read_all(octets[:at]))

    def test_places_in_all_octets(self):
        begin = all_octets(FRAMES[:7])
        for octets, at in (((13,), 0), ((8, 1, 8), 2), ((1, 5, 3, 47), 3)):
            for call in (read_all, lambda row: joined((row[:9], (), row[9:]))):
                with self.assertRaises(InvalidOctets) as caught:
                    call(begin + octets)
                self.assertEqual(caught.exception.at, len(begin) + at)

    def test_new_lists(self):
        one, other = read_all((12, 0)), read_all((12, 0))
        one[0].append(1)
        self.assertEqual(other, ([("bye",)], ()))
        self.assertIsInstance(other[1], tuple)

    def test_limits(self):
        self.assertEqual(read_all((12, 0) * 500), ([("bye",)] * 500, ()))
        self.assertEqual(joined(((12, 0) * 5,) * 100), ([("bye",)] * 500, ()))
        self.assertEqual(joined(()), ([], ()))
        self.assertEqual(joined(((),) * 100), ([], ()))
        for pieces in (((),) * 101, ((12, 0) * 500, (12,)), ((12, 0) * 5,) * 101, ((12, 0) * 501,)):
            with self.assertRaises(InvalidOctets) as caught:
                joined(pieces)
            self.assertEqual(caught.exception.at, 0)


class Arguments(ArgumentChecks, unittest.TestCase):
    def test_wrong_arguments(self):
        not_octets = ((256,), (12, -1), (12, True), (12, "0"), [12, 0], (12, 0, None), (12, 0) * 500 + (12,), (12.0,))
        self.check_arguments(frame_octets, (("bye",),), (InvalidFrame,), ((["bye"], ("bye", 1), ("heard", 8)),))
        for function in (read_frame, read_all):
            self.check_arguments(function, ((12, 0),), (InvalidOctets,), (not_octets,), ((0, 0),))
        pieces = tuple((piece,) for piece in not_octets) + ((12, 0), [(12, 0)], ((12, 0), [12, 0]))
        self.check_arguments(joined, (((12, 0),),), (InvalidOctets,), (pieces,), (((),),))


if __name__ == "__main__":
    unittest.main()
