"""[8], [9], [10], [13] and [52]: worlds, free numbers, rest and faults."""

import unittest

from heardonce.errors import InvalidManner, InvalidNames, InvalidSide, InvalidWorld
from heardonce.events import happened_all
from heardonce.worlds import faults_of, free_number, fresh_world, is_at_rest, is_world
from tests.arguments import ArgumentChecks
from tests.values import ODD_VALUES, bent, replaced

MANNER = (3, False, True)
WORDS = (("light", "a", 0), ("marked", "a/b", 999), ("paired", "c", 5), ("light", "a", 0))
FRAMES = (
    ("word", "light", None, False, "a", 1), ("word", "marked", 0, False, "a/b", 2),
    ("word", "paired", 2, True, "c", 999), ("heard", 0), ("taken", 1), ("let", 2), ("done", 0),
)
BOOK = ((0, "marked", "sent", "a", 1), (1, "paired", "sent", "a/b", 0), (2, "paired", "let", "c", 999))
TOLD = (("ann", "light", "a", 1), ("bob", "paired", "a/b", 2), ("ann", "marked", "c", 999), ("ann", "light", "a", 1))
RICH = (
    MANNER,
    (
        ("ann", (BOOK, (0, 2)), (BOOK[:1], (1,)), (("a", 1), ("a/b", 999), ("a", 1))),
        ("bob", ((), ()), (BOOK[2:], (0, 1, 2)), ()),
    ),
    (
        ("ann", (("#", "light"), ("+/b", "paired"), ("a", "marked"), ("a/#", "light")), (BOOK, (2,), WORDS),
         (BOOK[1:], (), WORDS[1:])),
        ("bob", (), ((), (0,), ()), ((), (), WORDS[:1])),
    ),
    (("ann", FRAMES, FRAMES[::-1]), ("bob", (), FRAMES[:1])),
    TOLD, TOLD[1:], TOLD[:2],
)
FRESH = fresh_world((2, True, True), ("ann", "bob"))
# Where in a world of a first client a hand's memory or log stands.
CLIENT_MEMORIES = ((1, 0, 1), (1, 0, 2))
SESSION_MEMORIES = ((2, 0, 2), (2, 0, 3))
LINES = ((3, 0, 1), (3, 0, 2))


def named_world(names):
    empty, waiting = ((), ()), ((), (), ())
    return (
        (1, False, False), tuple((name, empty, empty, ()) for name in names),
        tuple((name, (), waiting, waiting) for name in names), tuple((name, (), ()) for name in names), (), (), (),
    )


class Worlds(unittest.TestCase):
    def check_world(self, path, part, is_one):
        self.assertIs(is_world(replaced(RICH, path, part)), is_one, (path, part))

    def test_rich_world(self):
        self.assertIs(is_world(RICH), True)

    def test_other_kinds(self):
        for other in bent(RICH):
            self.assertIs(is_world(other), False, other)

    def test_odd_values(self):
        for value in ODD_VALUES + ((), (1,) * 7, ((),) * 7, RICH[:6], RICH + ((),), list(RICH)):
            self.assertIs(is_world(value), False)

    def test_manners(self):
        for ring, is_one in ((0, False), (1, True), (8, True), (9, False), (True, False), ("1", False)):
            self.assertIs(is_world(replaced(FRESH, (0, 0), ring)), is_one)
        for at in (1, 2):
            for value, is_one in ((True, True), (False, True), (0, False), (1, False), (None, False)):
                self.assertIs(is_world(replaced(FRESH, (0, at), value)), is_one)
        for manner in ((2, True), (2, True, True, True), [2, True, True]):
            self.assertIs(is_world(replaced(FRESH, (0,), manner)), False)

    def test_numbers_and_ring(self):
        for ring in range(1, 9):
            for number in range(9):
                for path, part in self.parts_with(number):
                    world = replaced(replaced(FRESH, (0,), (ring, False, False)), path, part)
                    self.assertIs(is_world(world), number < ring and number < 8, (ring, path, part))

    def parts_with(self, number):
        parts = []
        for path in CLIENT_MEMORIES + SESSION_MEMORIES:
            parts.append((path + (0,), ((number, "marked", "sent", "a", 1),)))
            parts.append((path + (0,), ((number, "paired", "let", "a", 1),)))
            parts.append((path + (1,), (number,)))
        for path in LINES:
            parts.append((path, (("word", "marked", number, False, "a", 1),)))
            parts.append((path, (("word", "paired", number, True, "a", 1),)))
            parts += [(path, ((word, number),)) for word in ("heard", "taken", "let", "done")]
        return parts

    def test_entries(self):
        for path in CLIENT_MEMORIES + SESSION_MEMORIES:
            for way, state, is_one in (
                ("marked", "sent", True), ("marked", "let", False), ("paired", "sent", True), ("paired", "let", True),
                ("light", "sent", False), ("light", "let", False), ("paired", "none", False), ("paired", "", False),
            ):
                self.check_world(path + (0,), ((1, way, state, "a", 1),), is_one)
            self.check_world(path + (0,), ((1, "marked", "sent", "+", 1),), False)
            self.check_world(path + (0,), ((1, "marked", "sent", "a", 1000),), False)
            self.check_world(path + (0,), ((1, "marked", "sent", "a"),), False)

    def test_books(self):
        one, two = (0, "paired", "sent", "b", 1), (1, "marked", "sent", "a", 1)
        for path in CLIENT_MEMORIES + SESSION_MEMORIES:
            self.check_world(path + (0,), (one, two), True)
            self.check_world(path + (0,), (two, one), False)
            self.check_world(path + (0,), (one, one), False)
            self.check_world(path + (0,), (one, (0, "paired", "sent", "c", 2)), False)
            self.check_world(path + (1,), (0, 1, 2), True)
            self.check_world(path + (1,), (1, 0), False)
            self.check_world(path + (1,), (1, 1), False)
        for path in CLIENT_MEMORIES:
            self.check_world(path, ((), (), ()), False)
        for path in SESSION_MEMORIES:
            self.check_world(path, ((), ()), False)

    def test_books_with_all_numbers(self):
        for path in CLIENT_MEMORIES + SESSION_MEMORIES:
            book = tuple((number, "paired", "sent", "a", 1) for number in range(8))
            for ring in (7, 8):
                world = replaced(RICH, (0, 0), ring)
                self.assertIs(is_world(replaced(world, path + (0,), book)), ring == 8)
                self.assertIs(is_world(replaced(world, path + (1,), tuple(range(8)))), ring == 8)
                self.assertIs(is_world(replaced(world, path + (1,), tuple(range(7)))), True)

    def test_names(self):
        for names, is_one in (
            ((), False), (("a",), True), (("a", "b", "c", "d"), True), (("a", "b", "c", "d", "e"), False),
            (("b", "a"), False), (("a", "a"), False), (("abcdef",), True), (("abcdefg",), False), (("",), False),
            (("a", "ab", "b"), True), (("a/b",), False),
        ):
            self.assertIs(is_world(named_world(names)), is_one, names)

    def test_same_names(self):
        for part in (1, 2, 3):
            self.check_world((part, 1, 0), "bo", False)
            self.check_world((part, 1, 0), "ann", False)
            self.check_world((part,), RICH[part][::-1], False)
            self.check_world((part,), RICH[part][:1], False)
            self.check_world((part,), RICH[part] + RICH[part][1:], False)
        for part in (4, 5, 6):
            self.check_world((part, 0, 0), "cid", False)
            self.check_world((part, 0, 0), "bob", True)

    def test_wishes_of_sessions(self):
        pairs = (("#", "light"), ("+", "light"), ("a", "paired"), ("a/#", "marked"), ("b", "light"))
        self.check_world((2, 0, 1), pairs[:4], True)
        self.check_world((2, 0, 1), pairs, False)
        self.check_world((2, 0, 1), pairs[1::-1], False)
        self.check_world((2, 0, 1), (("a", "light"), ("a", "paired")), False)
        self.check_world((2, 0, 1), (("a", "light"), ("a", "light")), False)
        self.check_world((2, 0, 1), (("#/a", "light"),), False)
        self.check_world((2, 0, 1), (("a", "none"),), False)
        self.check_world((2, 0, 1), (("a",),), False)

    def test_how_many(self):
        for path in LINES:
            self.check_world(path, (("heard", 1),) * 12, True)
            self.check_world(path, (("heard", 1),) * 13, False)
        for path in SESSION_MEMORIES:
            self.check_world(path + (2,), WORDS[:1] * 12, True)
            self.check_world(path + (2,), WORDS[:1] * 13, False)
        self.check_world((1, 0, 3), (("a", 1),) * 100, True)
        self.check_world((1, 0, 3), (("a", 1),) * 101, False)
        for part in (4, 5, 6):
            self.check_world((part,), TOLD[:1] * 100, True)
            self.check_world((part,), TOLD[:1] * 101, False)

    def test_frames_on_lines(self):
        for path in LINES:
            for frame in (
                ("hello", "ann", True), ("welcome", True), ("wish", 1, "a", "light"), ("wished", 1),
                ("unwish", 1, "a"), ("unwished", 1), ("bye",), ("word", "light", 1, False, "a", 1),
                ("word", "light", None, True, "a", 1), ("word", "marked", None, False, "a", 1), ("heard", None), (),
            ):
                self.check_world(path, (frame,), False)
            self.check_world(path, (("word", "light", None, False, "a", 1),), True)

    def test_words_told(self):
        for part in (4, 5, 6):
            for way, is_one in (("light", True), ("marked", True), ("paired", True), ("none", False)):
                self.check_world((part,), (("ann", way, "a", 1),), is_one)
            self.check_world((part,), (("ann", "light", "a/#", 1),), False)
            self.check_world((part,), (("ann", "light", "a", 1000),), False)
            self.check_world((part,), (("ann", "light", "a"),), False)
        self.check_world((1, 0, 3), (("+", 1),), False)
        self.check_world((1, 0, 3), (("a", 1, 1),), False)


class FreshWorlds(unittest.TestCase):
    def test_fresh_world(self):
        for names in (("ann",), ("a", "b", "c", "d")):
            world = fresh_world((1, False, False), names)
            self.assertEqual(world, named_world(names))
            self.assertTrue(is_world(world))
            self.assertTrue(is_at_rest(world))
            self.assertEqual(faults_of(world), [])

    def test_manner_is_kept(self):
        for manner in ((1, True, False), (8, False, True)):
            self.assertEqual(fresh_world(manner, ("ann",))[0], manner)


class FreeNumbers(unittest.TestCase):
    def test_books(self):
        for careful in (True, False):
            world = fresh_world((3, False, careful), ("ann", "bob"))
            for numbers, least in (((), 0), ((0,), 1), ((0, 1), 2), ((1, 2), 0), ((0, 2), 1), ((0, 1, 2), None)):
                book = tuple((number, "marked", "sent", "a", 1) for number in numbers)
                with_client = replaced(world, (1, 1, 1, 0), book)
                self.assertEqual(free_number(with_client, "bob", "coming"), least)
                self.assertEqual(free_number(with_client, "bob", "going"), 0)
                self.assertEqual(free_number(with_client, "ann", "coming"), 0)
                with_session = replaced(world, (2, 1, 2, 0), book)
                self.assertEqual(free_number(with_session, "bob", "going"), least)
                self.assertEqual(free_number(with_session, "bob", "coming"), 0)
                self.assertEqual(free_number(replaced(world, (1, 1, 2, 0), book), "bob", "coming"), 0)
                self.assertEqual(free_number(replaced(world, (1, 1, 1, 1), numbers), "bob", "coming"), 0)
                self.assertEqual(free_number(replaced(world, (2, 1, 2, 1), numbers), "bob", "coming"), 0)

    def test_frames(self):
        for careful in (True, False):
            world = fresh_world((2, False, careful), ("ann", "bob"))
            for frame in (
                ("word", "marked", 0, False, "a", 1), ("word", "paired", 0, True, "a", 1), ("heard", 0), ("taken", 0),
                ("let", 0), ("done", 0),
            ):
                for path in LINES:
                    self.check_line(replaced(world, path, (frame,)), careful)

    def check_line(self, world, careful):
        for side in ("coming", "going"):
            self.assertEqual(free_number(world, "ann", side), 1 if careful else 0)
            self.assertEqual(free_number(world, "bob", side), 0)

    def test_light_words_bar_nothing(self):
        world = replaced(FRESH, (3, 0, 1), (("word", "light", None, False, "a", 1),) * 3)
        self.assertEqual(free_number(world, "ann", "coming"), 0)

    def test_book_and_frames_together(self):
        world = fresh_world((3, False, True), ("ann",))
        world = replaced(world, (1, 0, 1, 0), ((1, "paired", "let", "a", 1),))
        world = replaced(world, (3, 0, 2), (("done", 0),))
        self.assertEqual(free_number(world, "ann", "coming"), 2)
        self.assertEqual(free_number(world, "ann", "going"), 1)
        self.assertIsNone(free_number(replaced(world, (3, 0, 1), (("let", 2),)), "ann", "coming"))


class Rest(unittest.TestCase):
    def test_each_thing_not_at_rest(self):
        self.assertIs(is_at_rest(FRESH), True)
        for path, part in Worlds().parts_with(1) + [(path + (2,), WORDS[:1]) for path in SESSION_MEMORIES]:
            self.assertIs(is_at_rest(replaced(FRESH, path, part)), False, path)
        for path in LINES:
            self.assertIs(is_at_rest(replaced(FRESH, path, FRAMES[:1])), False)

    def test_things_at_rest(self):
        world = replaced(FRESH, (1, 0, 3), (("a", 1),))
        world = replaced(world, (2, 0, 1), (("a", "light"),))
        for part in (4, 5, 6):
            world = replaced(world, (part,), TOLD)
        self.assertIs(is_at_rest(world), True)


class Faults(unittest.TestCase):
    def faults(self, heard=(), due=(), given=(), owned=()):
        world = replaced(FRESH, (1, 1, 3), heard)
        return faults_of(world[:4] + (due, given, owned))

    def test_heard_less(self):
        for ways, less_below in (
            (("paired",), 1), (("marked",), 1), (("light",), 0), (("paired", "marked"), 2), (("marked", "light"), 1),
            (("paired", "paired", "light", "marked"), 3),
        ):
            for often in range(5):
                faults = self.faults((("a", 1),) * often, tuple(("bob", way, "a", 1) for way in ways))
                self.assertEqual(("heard", "bob", "a", 1, "less") in faults, often < less_below, (ways, often))

    def test_heard_more(self):
        for ways, more_above in (
            ((), 0), (("paired",), 1), (("marked",), 9), (("light",), 1), (("paired", "marked"), 9),
            (("paired", "light"), 2), (("paired", "light", "light", "marked"), 9),
        ):
            for often in range(5):
                faults = self.faults((("a", 1),) * often, tuple(("bob", way, "a", 1) for way in ways))
                self.assertEqual(("heard", "bob", "a", 1, "more") in faults, often > more_above, (ways, often))

    def test_owned(self):
        for way in ("light", "marked", "paired"):
            for given in range(4):
                for owned in range(4):
                    word = ("ann", way, "a", 1)
                    faults = []
                    if way != "light" and owned < given:
                        faults = [("owned",) + word + ("less",)]
                    elif way != "marked" and owned > given:
                        faults = [("owned",) + word + ("more",)]
                    self.assertEqual(self.faults((), (), (word,) * given, (word,) * owned), faults)

    def test_words_held_apart(self):
        self.assertEqual(
            self.faults((("a", 1),), (("bob", "paired", "a", 2), ("ann", "paired", "a", 1), ("bob", "marked", "b", 1))),
            [("heard", "ann", "a", 1, "less"), ("heard", "bob", "a", 1, "more"), ("heard", "bob", "a", 2, "less"),
             ("heard", "bob", "b", 1, "less")],
        )
        self.assertEqual(
            self.faults((), (), (("ann", "paired", "a", 1), ("bob", "paired", "a", 1)), (
                ("ann", "marked", "a", 1), ("ann", "paired", "a", 2), ("bob", "paired", "a", 1),
                ("ann", "light", "b", 3),
            )),
            [("owned", "ann", "light", "b", 3, "more"), ("owned", "ann", "paired", "a", 1, "less"),
             ("owned", "ann", "paired", "a", 2, "more")],
        )

    def test_also_not_at_rest(self):
        world = happened_all(FRESH, (("give", "ann", "marked", "a", 1), ("give", "ann", "light", "a", 1)))
        self.assertEqual(faults_of(world), [("owned", "ann", "marked", "a", 1, "less")])

    def test_order_and_new_lists(self):
        one, other = faults_of(RICH), faults_of(RICH)
        self.assertEqual(one, sorted(one))
        self.assertEqual({fault[0] for fault in one}, {"heard", "owned"})
        self.assertIsNot(one, other)
        one.append(1)
        self.assertEqual(faults_of(RICH), other)


class Arguments(ArgumentChecks, unittest.TestCase):
    def test_wrong_arguments(self):
        self.check_arguments(
            fresh_world, ((2, True, True), ("ann",)), (InvalidManner, InvalidNames),
            (((0, True, True), (9, True, True), (2, 1, True), (2, True)),
             ((), ("b", "a"), ("a", "a"), ("a", "b", "c", "d", "e"), ["a"], "a", ("",), ("a/b",), ("abcdefg",))),
        )
        worlds = (RICH[:6], list(RICH), replaced(RICH, (0, 0), 2), replaced(RICH, (1, 0, 0), "bob"))
        self.check_arguments(
            free_number, (RICH, "ann", "coming"), (InvalidWorld, InvalidNames, InvalidSide),
            (worlds, ("", "cid", "an", ("ann",), RICH[1][0]), ("", "come", "there", ("coming",))),
        )
        for function in (is_at_rest, faults_of):
            self.check_arguments(function, (RICH,), (InvalidWorld,), (worlds,))


if __name__ == "__main__":
    unittest.main()
