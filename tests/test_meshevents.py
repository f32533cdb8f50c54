"""[39], [40], [77]: events in meshes, and of [3] what books promise."""

import random
import unittest

from heardonce.errors import CannotHappen, InvalidMesh, InvalidMeshEvent
from heardonce.meshes import fresh_mesh, is_mesh, is_settled, mesh_faults, words_had
from heardonce.meshevents import can_in_mesh, crossings, is_mesh_event, mesh_after, mesh_after_all
from tests.arguments import ArgumentChecks
from tests.bridges import (
    BOOKS, MARKS, Impossible, Mesh, all_events, crossed_to_the_end, some_events, some_mesh,
)
from tests.values import ODD_VALUES, bent, replaced

EVENTS = (("tell", "x", "a/b"), ("cross", "x", "y"), ("part", "x", "y"), ("meet", "x", "zz"))


def two(book, x_log=(), y_log=(), mark=0, wish="#", manner_mark="kept", is_open=True):
    """A mesh of two brokers and one bridge."""
    return ((book, manner_mark), (("x", x_log), ("y", y_log)), (("x", "y", wish, is_open, mark),))


def told(origin, *numbers, giver=""):
    return tuple((origin, number, "a", giver) for number in numbers)


CROSS = ("cross", "x", "y")


class Events(unittest.TestCase):
    def test_events(self):
        for event in EVENTS:
            self.assertIs(is_mesh_event(event), True)
            for value in bent(event) + [event[:-1], event + (0,), list(event)]:
                self.assertIs(is_mesh_event(value), False, value)
        for value in ODD_VALUES:
            self.assertIs(is_mesh_event(value), False, value)

    def test_bounds(self):
        for event, path, value, is_one in (
            (0, (1,), "", False), (0, (2,), "#", False), (0, (2,), "x", True), (1, (1,), "abcdefg", False),
            (1, (2,), "a/b", False), (1, (2,), "x", True), (1, (0,), "crossed", False), (2, (2,), "", False),
        ):
            self.assertIs(is_mesh_event(replaced(EVENTS[event], path, value)), is_one, (event, path, value))


class Beside(unittest.TestCase):
    def test_rows_of_events(self):
        dice = random.Random(40)
        for book in BOOKS:
            for mark in MARKS:
                for _ in range(6):
                    start = some_mesh(dice, (book, mark))
                    events, model = some_events(dice, start, 60)
                    mesh = start
                    for event in events:
                        mesh = mesh_after(mesh, event)
                        self.assertIs(is_mesh(mesh), True)
                    self.assertEqual(mesh, model.mesh())
                    self.assertEqual(mesh_after_all(start, events), mesh)

    def test_all_events_tried(self):
        dice = random.Random(77)
        for _ in range(60):
            _, model = some_events(dice, some_mesh(dice, most=4), dice.randrange(60))
            mesh, crossed = model.mesh(), []
            for event in all_events(mesh):
                try:
                    self.assertEqual(mesh_after(mesh, event), model.behind(event).mesh())
                    self.assertIs(can_in_mesh(mesh, event), True)
                    crossed += [event] if event[0] == "cross" else []
                except Impossible:
                    self.assertIs(can_in_mesh(mesh, event), False)
                except CannotHappen:
                    self.assertRaises(Impossible, model.behind, event)
                    self.assertIs(can_in_mesh(mesh, event), False)
            self.assertEqual(crossings(mesh), sorted(crossed))


class Tell(unittest.TestCase):
    def test_numbers(self):
        mesh = two("all", told("x", 0) + told("y", 0, giver="y") + told("x", 9))
        self.assertEqual(mesh_after(mesh, ("tell", "x", "b/c"))[1][0][1][3:], (("x", 2, "b/c", ""),))
        self.assertEqual(mesh_after(mesh, ("tell", "y", "b"))[1][1][1], (("y", 0, "b", ""),))

    def test_cannot(self):
        self.assertRaises(CannotHappen, mesh_after, two("all"), ("tell", "z", "a"))
        for many in (59, 60):
            mesh = two("all", told("x", *range(many)), mark=3)
            self.assertIs(can_in_mesh(mesh, ("tell", "x", "a")), many < 60)
            self.assertIs(can_in_mesh(mesh, ("tell", "y", "a")), True)


class Cross(unittest.TestCase):
    def test_cannot(self):
        log = told("x", 0)
        for mesh in (two("all", log, is_open=False), two("all", log, mark=1), two("all")):
            self.assertRaises(CannotHappen, mesh_after, mesh, CROSS)
            self.assertEqual(crossings(mesh), [])
        for event in (("cross", "y", "x"), ("cross", "x", "x"), ("cross", "x", "z"), ("cross", "z", "y")):
            self.assertRaises(CannotHappen, mesh_after, two("all", log), event)

    def test_full_logs(self):
        full = told("y", *range(60))
        for book in BOOKS:
            self.assertIs(can_in_mesh(two(book, told("x", 0), full), CROSS), False)
            self.assertIs(can_in_mesh(two(book, told("x", 0), full[1:]), CROSS), True)
            # What is not taken in crosses all the same.
            self.assertIs(can_in_mesh(two(book, told("x", 0), full, wish="b"), CROSS), True)
            self.assertIs(can_in_mesh(two(book, told("x", 0, giver="y"), full), CROSS), True)
            again = two(book, told("y", 59, giver="y")[:0] + (("y", 59, "a", ""),), full)
            self.assertIs(can_in_mesh(again, CROSS), book != "none")

    def test_what_is_not_met(self):
        mesh = mesh_after(two("none", told("x", 0), wish="b"), CROSS)
        self.assertEqual((mesh[1][1][1], mesh[2][0][4]), ((), 1))

    def test_back_to_its_giver(self):
        mesh = mesh_after(two("none", told("y", 0, giver="y"), told("y", 0)), CROSS)
        self.assertEqual((mesh[1][1][1], mesh[2][0][4]), (told("y", 0), 1))
        # Given by another one, it comes back.
        mesh = mesh_after(two("none", told("y", 0), told("y", 0)), CROSS)
        self.assertEqual(mesh[1][1][1], told("y", 0) + (("y", 0, "a", "x"),))

    def test_books(self):
        had = told("z", 3)[:0] + tuple(("x", number, "a", "") for number in (3, 0, 1, 2))
        for book, taken in (
            ("none", {0, 1, 2, 3, 4}), ("all", {4}), ("last", {4}), (1, {0, 1, 3, 4}), (2, {0, 3, 4}), (3, {3, 4}),
            (4, {4}), (8, {4}),
        ):
            for number in range(5):
                mesh = mesh_after(two(book, told("x", number), had), CROSS)
                self.assertEqual(len(mesh[1][1][1]) - 4, int(number in taken), (book, number))
                # A word of another origin, with the same number, is another word.
                mesh = mesh_after(two(book, told("y", number), had), CROSS)
                self.assertEqual(len(mesh[1][1][1]), 5)

    def test_last_bars_what_comes_behind_a_greater_number(self):
        had = told("x", 3)
        for number in range(5):
            mesh = mesh_after(two("last", told("x", number), had), CROSS)
            self.assertEqual(len(mesh[1][1][1]) - 1, int(number > 3))


class PartsAndMeets(unittest.TestCase):
    def test_marks(self):
        for mark, behind in (("kept", 1), ("anew", 0), ("skip", 3)):
            mesh = two("all", told("x", 0, 1, 2), mark=1, manner_mark=mark)
            parted = mesh_after(mesh, ("part", "x", "y"))
            self.assertEqual(parted[2], (("x", "y", "#", False, 1),))
            self.assertEqual(mesh_after(parted, ("meet", "x", "y"))[2], (("x", "y", "#", True, behind),))

    def test_cannot(self):
        mesh = two("all")
        parted = mesh_after(mesh, ("part", "x", "y"))
        self.assertIs(can_in_mesh(mesh, ("meet", "x", "y")), False)
        self.assertIs(can_in_mesh(parted, ("part", "x", "y")), False)
        for word in ("part", "meet"):
            for pair in (("y", "x"), ("x", "z"), ("x", "x")):
                self.assertIs(can_in_mesh(mesh, (word,) + pair), False)
                self.assertIs(can_in_mesh(parted, (word,) + pair), False)


class Rows(unittest.TestCase):
    def test_many(self):
        mesh = fresh_mesh(("all", "kept"), ("x", "y"), (("x", "y", "#"),))
        turns = (("part", "x", "y"), ("meet", "x", "y"))
        self.assertEqual(mesh_after_all(mesh, turns * 100), mesh)
        self.assertEqual(mesh_after_all(mesh, ()), mesh)
        for wrong in (turns * 100 + turns[:1], list(turns), turns + (("part", "x"),), turns[0]):
            with self.assertRaises(InvalidMeshEvent):
                mesh_after_all(mesh, wrong)
        for wrong in (turns[1:], turns[:1] * 2, turns + turns[1:] + turns):
            with self.assertRaises(CannotHappen):
                mesh_after_all(mesh, wrong)

    def test_wrong_events_come_ahead_of_those_that_cannot(self):
        with self.assertRaises(InvalidMeshEvent):
            mesh_after_all(two("all"), (CROSS, ("cross", "x", "")))


class Promises(unittest.TestCase):
    """[3]: meshes that came of fresh ones by mesh events."""

    def runs(self, seed, manners, wishes=("#", "a", "a/#", "b"), words=("tell", "cross", "cross", "part", "meet")):
        dice = random.Random(seed)
        for _ in range(60):
            start = some_mesh(dice, dice.choice(manners), wishes)
            _, model = some_events(dice, start, 40, words)
            yield dice, model

    def check_none_twice(self, mesh):
        for name, _ in mesh[1]:
            had = words_had(mesh, name)
            self.assertEqual(len(set(had)), len(had))

    def settled(self, dice, model):
        """The mesh with all bridges met again, and crossed to the end, or None if a log gets full ahead of it."""
        for pair, bridge in sorted(model.bridges.items()):
            if not bridge.is_open:
                model = model.behind(("meet",) + pair)
        return crossed_to_the_end(model, dice)[0]

    def test_all(self):
        settled = 0
        for dice, model in self.runs(1, [("all", mark) for mark in MARKS]):
            self.check_none_twice(model.mesh())
            mesh = self.settled(dice, model).mesh()
            self.check_none_twice(mesh)
            if is_settled(mesh) and mesh[0][1] != "skip":
                settled += 1
                self.assertEqual(mesh_faults(mesh), [])
        self.assertGreater(settled, 20)

    def test_all_with_skipped_marks_may_miss(self):
        mesh = two("all", manner_mark="skip")
        mesh = mesh_after_all(mesh, (("part", "x", "y"), ("tell", "x", "a"), ("meet", "x", "y")))
        self.assertIs(is_settled(mesh), True)
        self.assertEqual(mesh_faults(mesh), [("y", "x", 0, "less")])

    def test_last(self):
        for dice, model in self.runs(2, [("last", mark) for mark in MARKS]):
            self.check_none_twice(model.mesh())
            self.check_none_twice(self.settled(dice, model).mesh())

    def test_last_kept_with_all_topics(self):
        settled = 0
        for dice, model in self.runs(3, [("last", "kept")], ("#",)):
            mesh = self.settled(dice, model).mesh()
            if is_settled(mesh):
                settled += 1
                self.assertEqual(mesh_faults(mesh), [])
        self.assertGreater(settled, 20)

    def test_last_with_few_topics_may_miss(self):
        bridges = (("x", "y", "a"), ("x", "z", "#"), ("z", "y", "#"))
        mesh = fresh_mesh(("last", "kept"), ("x", "y", "z"), bridges)
        events = (("tell", "x", "b"), ("tell", "x", "a"), CROSS, CROSS, ("cross", "x", "z"), ("cross", "x", "z"))
        mesh = mesh_after_all(mesh, events + (("cross", "z", "y"),) * 2)
        self.assertIs(is_settled(mesh), True)
        self.assertEqual(mesh_faults(mesh), [("y", "x", 0, "less")])


class Arguments(ArgumentChecks, unittest.TestCase):
    def test_wrong_arguments(self):
        mesh = two("all")
        meshes = (mesh[:2], (), list(mesh), replaced(mesh, (2, 0, 4), 1))
        events = (("tell", "x", "#"), ("cross", "x", ""), ("cross", "x"), ("met", "x", "y"))
        tell = ("tell", "x", "a")
        self.check_arguments(can_in_mesh, (mesh, tell), (InvalidMesh, InvalidMeshEvent), (meshes, events))
        self.check_arguments(mesh_after, (mesh, tell), (InvalidMesh, InvalidMeshEvent), (meshes, events))
        rows = tuple((tell, event) for event in events) + (tell, [tell])
        self.check_arguments(mesh_after_all, (mesh, ()), (InvalidMesh, InvalidMeshEvent), (meshes, rows))
        self.check_arguments(crossings, (mesh,), (InvalidMesh,), (meshes,))

    def test_new_lists(self):
        mesh = two("all", told("x", 0))
        crossings(mesh).clear()
        self.assertEqual(crossings(mesh), [CROSS])
        self.assertEqual(Mesh(mesh).mesh(), mesh)


if __name__ == "__main__":
    unittest.main()
