"""[79]: meshes settled, and shortest runs by which a broker has a word twice."""

import random
import unittest

from heardonce.errors import InvalidMesh, InvalidNumber, TooMany
from heardonce.meshes import fresh_mesh
from heardonce.meshevents import mesh_after, mesh_after_all
from heardonce.meshruns import doubling_run, is_doubling_run, settled_by
from tests.arguments import ArgumentChecks
from tests.bridges import MARKS, Mesh, crossed_to_the_end, doubling_runs, some_events, some_mesh
from tests.values import ODD_VALUES, bent, replaced

RING = fresh_mesh(("none", "kept"), ("x", "y", "z"), (("x", "y", "#"), ("y", "z", "a/#"), ("z", "x", "#")))
TOLD = mesh_after(RING, ("tell", "x", "a"))
ROUND = (("cross", "x", "y"), ("cross", "y", "z"), ("cross", "z", "x"))


def with_book(mesh, book):
    return ((book, "kept"),) + mesh[1:]


class Settled(unittest.TestCase):
    def test_just_so_many(self):
        mesh = mesh_after_all(RING, (("tell", "x", "b"), ("tell", "x", "b/c")))
        behind, many = settled_by(mesh, 200)
        self.assertEqual(many, 4)
        self.assertEqual(settled_by(mesh, 4), (behind, 4))
        self.assertEqual(settled_by(mesh, 5), (behind, 4))
        self.assertIsNone(settled_by(mesh, 3))
        self.assertIsNone(settled_by(mesh, 0))
        self.assertEqual(settled_by(behind, 0), (behind, 0))
        self.assertEqual(settled_by(RING, 0), (RING, 0))

    def test_without_an_end(self):
        for most in (0, 1, 100):
            self.assertIsNone(settled_by(TOLD, most))
        # Full logs end what goes round.
        behind, many = settled_by(TOLD, 200)
        self.assertEqual([len(log) for _, log in behind[1]], [60, 60, 60])
        self.assertEqual(many, 179)

    def test_beside_another_telling(self):
        dice = random.Random(79)
        for _ in range(100):
            _, model = some_events(dice, some_mesh(dice), 30)
            behind = crossed_to_the_end(model)
            mesh, many = behind[0].mesh(), behind[1]
            self.assertEqual(settled_by(model.mesh(), 200), (mesh, many) if many <= 200 else None)
            if 0 < many <= 200:
                self.assertEqual(settled_by(model.mesh(), many), (mesh, many))
                self.assertIsNone(settled_by(model.mesh(), many - 1))


class Doubling(unittest.TestCase):
    def test_round(self):
        for most in range(7):
            self.assertEqual(doubling_run(TOLD, most), ROUND if most >= 3 else None)
        for book in ("all", "last", 1, 2):
            self.assertIsNone(doubling_run(with_book(TOLD, book), 6))
        more = mesh_after_all(with_book(TOLD, 1), (("tell", "x", "b"),))
        self.assertEqual(doubling_run(more, 6), ROUND)

    def test_doubled_now(self):
        mesh = replaced(TOLD, (1, 1, 1), (("x", 0, "a", "x"),) * 2)
        for book in ("none", "last", "all", 1, 8):
            for most in (0, 6):
                self.assertEqual(doubling_run(with_book(mesh, book), most), ())
            self.assertIs(is_doubling_run(with_book(mesh, book), ()), True)
            self.assertIs(is_doubling_run(with_book(mesh, book), ROUND[:1]), False)

    def test_too_many(self):
        for most in (7, 8, 200):
            for mesh in (TOLD, RING, replaced(TOLD, (1, 1, 1), (("x", 0, "a", "x"),) * 2)):
                with self.assertRaises(TooMany) as caught:
                    doubling_run(mesh, most)
                self.assertEqual(caught.exception.limit, 6)
        for most in (-1, 201, True, None, "6"):
            self.assertRaises(InvalidNumber, doubling_run, TOLD, most)

    def check(self, model, most):
        mesh, runs = model.mesh(), doubling_runs(model, most)
        run = doubling_run(mesh, most)
        self.assertEqual(run is None, not runs, mesh)
        if runs:
            self.assertIn(run, runs)
            self.assertEqual(doubling_run(mesh, len(run)) in runs, True)
            if run:
                self.assertIsNone(doubling_run(mesh, len(run) - 1))
        for value in runs:
            self.assertIs(is_doubling_run(mesh, value), True)
        return run

    def test_beside_all_runs(self):
        dice = random.Random(80)
        found = set()
        for book in ("none", "none", "none", 1, 1, 2, 3, "all", "last"):
            for words in (("tell", "cross", "part", "meet"), ("tell",) + ("cross",) * dice.randrange(1, 9)) * 12:
                mesh = some_mesh(dice, (book, dice.choice(MARKS)), most=4)
                _, model = some_events(dice, mesh[:2] + (mesh[2][:5],), dice.randrange(1, 30), words)
                run = self.check(model, 4)
                found.add(None if run is None else len(run))
                if run:
                    self.check_others(model, run)
                for event in run or ():
                    model = model.behind(event)
                    found.add(len(self.check(model, 4)))
        self.assertEqual(found, {None, 0, 1, 2, 3, 4})

    def check_others(self, model, run):
        """Runs bent at one place, shorter ones and longer ones."""
        mesh, runs = model.mesh(), doubling_runs(model, len(run))
        for pair in model.bridges:
            for at in range(len(run)):
                value = replaced(run, (at,), ("cross",) + pair)
                self.assertIs(is_doubling_run(mesh, value), value in runs)
                value = run[:at] + (("cross",) + pair,) + run[at:]
                self.assertIs(is_doubling_run(mesh, value), False)
        for at in range(len(run)):
            self.assertIs(is_doubling_run(mesh, run[:at] + run[at + 1:]), False)

    def test_marked_records_count(self):
        # What is ahead of a mark has crossed, and closed bridges are not crossed.
        mesh = replaced(TOLD, (2, 0, 4), 1)
        self.assertIsNone(doubling_run(mesh, 6))
        self.assertIsNone(doubling_run(replaced(TOLD, (2, 1, 3), False), 6))

    def test_any_value(self):
        for value in bent(ROUND) + list(ODD_VALUES) + [
            ROUND + ROUND, list(ROUND), ROUND[:2], ROUND[::-1], (("tell", "x", "a"),) + ROUND, ROUND[0],
            (("part", "x", "y"),) + ROUND[1:],
        ]:
            self.assertIs(is_doubling_run(TOLD, value), False, value)
        self.assertIs(is_doubling_run(TOLD, ROUND), True)

    def test_runs_of_six_and_seven(self):
        for ahead in range(6):
            mesh = mesh_after_all(RING, (("tell", "x", "b"),) * ahead + (("tell", "x", "a"),))
            run = (ROUND[0],) * (ahead + 1) + ROUND[1:2] * (ahead + 1) + ROUND[2:]
            self.assertEqual(sorted(doubling_run(mesh, 6) or ()) == sorted(run), ahead <= 1)
            self.assertIs(is_doubling_run(mesh, run), ahead <= 1)

    def test_words_ahead_on_the_last_bridge(self):
        for ahead in range(6):
            mesh = mesh_after_all(TOLD, (("tell", "z", "b"),) * ahead)
            run = ROUND + (("cross", "z", "x"),) * ahead
            for most in range(7):
                self.assertEqual(len(doubling_run(mesh, most) or ()), 3 + ahead if 3 + ahead <= most else 0)
            self.assertIs(is_doubling_run(mesh, run), 3 + ahead <= 6)

    def test_full_logs(self):
        others = tuple(("y", number, "a", "") for number in range(59))
        for more, run in ((0, (("cross", "x", "y"),)), (1, None)):
            log = (("x", 0, "a", "x"),) + others[:58 + more]
            mesh = (("none", "kept"), (("x", (("x", 0, "a", ""),)), ("y", log)), (("x", "y", "#", True, 0),))
            self.assertEqual(len(log), 59 + more)
            self.assertEqual(doubling_run(mesh, 6), run)
            self.assertIs(is_doubling_run(mesh, (("cross", "x", "y"),)), run is not None)

    def test_crossings_alone(self):
        closed = mesh_after(TOLD, ("part", "x", "y"))
        self.assertIs(is_doubling_run(closed, (("meet", "x", "y"),) + ROUND), False)
        self.assertIs(is_doubling_run(mesh_after(closed, ("meet", "x", "y")), ROUND), True)


class Arguments(ArgumentChecks, unittest.TestCase):
    def test_wrong_arguments(self):
        meshes, numbers = (RING[:2], (), list(RING)), (201, -1, True)
        for function in (settled_by, doubling_run):
            self.check_arguments(function, (RING, 5), (InvalidMesh, InvalidNumber), (meshes, numbers))
        self.check_arguments(is_doubling_run, (TOLD, ROUND), (InvalidMesh, None), (meshes, ()))
        self.assertEqual(Mesh(TOLD).mesh(), TOLD)


if __name__ == "__main__":
    unittest.main()
