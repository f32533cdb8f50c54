"""[38], [76], and of [41] what is due, a settled mesh, and its faults."""

import random
import unittest

from heardonce.errors import InvalidBridges, InvalidMesh, InvalidMeshManner, InvalidNames
from heardonce.meshes import fresh_mesh, is_mesh, is_settled, mesh_faults, words_had
from tests.arguments import ArgumentChecks
from tests.bridges import BOOKS, MARKS, Mesh, some_events, some_mesh
from tests.values import ODD_VALUES, bent, replaced

X_LOG = (("x", 0, "a", ""), ("y", 0, "b", "y"), ("x", 1, "a/b", ""))
MESH = (
    (3, "kept"), (("w", ()), ("x", X_LOG), ("y", (("y", 0, "b", ""), ("x", 0, "a", "x")))),
    (("x", "y", "#", True, 2), ("y", "w", "a/#", False, 0), ("y", "x", "+", True, 2)),
)
PAIRS = tuple((one, other) for one in "abcd" for other in "abcd" if one != other) + (("a", "e"),)


def with_bridges(many, names="abcde"):
    return (("all", "kept"), tuple((name, ()) for name in names), tuple(
        pair + ("#", True, 0) for pair in sorted(PAIRS)[:many]
    ))


def with_records(many):
    return (("all", "kept"), (("a", tuple(("a", number % 100, "t", "") for number in range(many))),), ())


class Meshes(unittest.TestCase):
    def test_meshes(self):
        for mesh in (MESH, with_bridges(12), with_records(60), (("none", "skip"), (("a", ()),), ())):
            self.assertIs(is_mesh(mesh), True)

    def test_other_kinds(self):
        for value in bent(MESH) + list(ODD_VALUES) + [MESH[:2], MESH + ((),), list(MESH), ()]:
            self.assertIs(is_mesh(value), False, value)

    def check_bounds(self, rows):
        for path, value, is_one in rows:
            self.assertIs(is_mesh(replaced(MESH, path, value)), is_one, (path, value))

    def test_manners(self):
        rows = [((0, 0), book, True) for book in BOOKS] + [((0, 1), mark, True) for mark in MARKS]
        self.check_bounds(rows + [
            ((0, 0), 9, False), ((0, 0), 0, False), ((0, 0), "first", False), ((0, 0), True, False),
            ((0, 1), "", False), ((0, 1), "last", False), ((0,), (3,), False), ((0,), (3, "kept", 0), False),
        ])

    def test_brokers(self):
        self.check_bounds((
            ((1,), MESH[1][::-1], False), ((1,), MESH[1][:2], False), ((1,), MESH[1] + (("z", ()),), True),
            ((1,), MESH[1] + (("y", ()),), False), ((1, 0, 0), "a", False), ((1, 0, 0), "", False),
            ((1, 0), ("w",), False), ((1, 0), ("w", (), ()), False),
        ))
        self.assertIs(is_mesh((("all", "kept"), (), ())), False)
        for many in range(1, 7):
            names = "abcdef"[:many]
            self.assertIs(is_mesh((("all", "kept"), tuple((name, ()) for name in names), ())), many <= 5)

    def test_records(self):
        record = (1, 1, 1, 1)
        self.check_bounds((
            (record + (0,), "x", True), (record + (0,), "w", True), (record + (0,), "v", False),
            (record + (0,), "", False), (record + (1,), 99, True), (record + (1,), 100, False),
            (record + (1,), -1, False), (record + (2,), "a/#", False), (record + (3,), "", True),
            (record + (3,), "w", True), (record + (3,), "x", False), (record + (3,), "v", False),
            (record, ("y", 0, "b"), False), (record, ("y", 0, "b", "", 1), False),
        ))
        self.assertIs(is_mesh(with_records(61)), False)

    def test_bridges(self):
        self.check_bounds((
            ((2,), MESH[2][::-1], False), ((2,), MESH[2] + MESH[2][2:], False), ((2,), (), True),
            ((2, 0, 0), "y", False), ((2, 0, 0), "w", False), ((2, 0, 1), "w", True), ((2, 0, 1), "v", False),
            ((2, 0, 2), "#/a", False), ((2, 0, 3), 1, False), ((2, 0, 4), 0, True), ((2, 0, 4), 3, True),
            ((2, 0, 4), 4, False), ((2, 1, 4), 2, True), ((2, 1, 4), 3, False), ((2, 2, 4), -1, False),
            ((2, 1), ("x", "y", "a", True, 0), False), ((2, 1), ("y", "y", "a", True, 0), False),
            ((2, 1), MESH[2][1][:4], False), ((2, 1), MESH[2][1] + (0,), False),
        ))
        self.assertIs(is_mesh(with_bridges(13)), False)
        self.assertEqual(len(with_bridges(13)[2]), 13)


class Fresh(unittest.TestCase):
    def test_fresh(self):
        self.assertEqual(
            fresh_mesh((1, "anew"), ("x", "y"), (("x", "y", "#"), ("y", "x", "a"))),
            ((1, "anew"), (("x", ()), ("y", ())), (("x", "y", "#", True, 0), ("y", "x", "a", True, 0))),
        )
        self.assertEqual(fresh_mesh(("last", "kept"), ("a",), ()), (("last", "kept"), (("a", ()),), ()))

    def test_bridges(self):
        bridges = tuple(pair + ("#",) for pair in sorted(PAIRS))
        names = tuple("abcde")
        self.assertEqual(len(fresh_mesh(("all", "kept"), names, bridges[:12])[2]), 12)
        for wrong in (
            bridges, bridges[1::-1], bridges[:1] * 2, (("a", "b", "#"), ("a", "b", "a")), (("a", "f", "#"),),
            (("a", "a", "#"),), (("a", "b", "#/a"),), (("a", "b"),), (("a", "b", "#", True),),
            (("a", "b", "#", True, 0),), [("a", "b", "#")], (["a", "b", "#"],), ("a", "b", "#"),
        ):
            with self.assertRaises(InvalidBridges, msg=wrong):
                fresh_mesh(("all", "kept"), names, wrong)

    def test_names(self):
        for wrong in ((), ("b", "a"), ("a", "a"), tuple("abcdef"), ["a"], ("A",), ("a", ""), ("a", 0), "a"):
            with self.assertRaises(InvalidNames, msg=wrong):
                fresh_mesh(("all", "kept"), wrong, ())


class Told(unittest.TestCase):
    def test_words_had(self):
        self.assertEqual(words_had(MESH, "x"), [("x", 0), ("y", 0), ("x", 1)])
        self.assertEqual(words_had(MESH, "w"), [])

    def test_settled(self):
        self.assertIs(is_settled(MESH), False)
        settled = replaced(replaced(MESH, (2, 0, 4), 3), (2, 1), ("y", "w", "a/#", True, 2))
        self.assertIs(is_settled(settled), True)
        for path, value in (((2, 0, 4), 2), ((2, 1, 3), False), ((2, 2, 3), False), ((2, 2, 4), 1)):
            self.assertIs(is_settled(replaced(settled, path, value)), False)
        self.assertIs(is_settled(with_records(5)), True)

    def test_faults(self):
        # The word ("x", 0) has not yet come to "w", and ("x", 1) neither to "w" nor to "y".
        self.assertEqual(
            mesh_faults(MESH), [("w", "x", 0, "less"), ("w", "x", 1, "less"), ("y", "x", 1, "less")],
        )
        twice = replaced(MESH, (1, 0, 1), (("y", 0, "b", "y"),) * 3)
        self.assertIn(("w", "y", 0, "more"), mesh_faults(twice))

    def test_faults_of_records_that_nobody_told(self):
        mesh = (("none", "kept"), (("a", (("b", 7, "t", "b"),) * 2), ("b", ())), (("b", "a", "#", True, 0),))
        self.assertEqual(mesh_faults(mesh), [])
        mesh = (("none", "kept"), (("a", (("b", 7, "t", ""),) * 2), ("b", ())), (("a", "b", "#", True, 0),))
        self.assertEqual(mesh_faults(mesh), [("a", "b", 7, "more"), ("b", "b", 7, "less")])

    def test_faults_by_the_topic_of_each_record(self):
        bridges = (("a", "b", "s", True, 0), ("a", "c", "t", True, 0))
        log = (("a", 0, "s", ""), ("a", 0, "t", ""))
        mesh = (("none", "kept"), (("a", log), ("b", ()), ("c", ())), bridges)
        self.assertEqual(mesh_faults(mesh), [("a", "a", 0, "more"), ("b", "a", 0, "less"), ("c", "a", 0, "less")])

    def test_beside_another_telling(self):
        dice = random.Random(76)
        kinds = set()
        for _ in range(150):
            _, model = some_events(dice, some_mesh(dice), dice.randrange(60))
            mesh = model.mesh()
            self.assertEqual(mesh_faults(mesh), model.faults())
            self.assertIs(is_settled(mesh), model.is_settled())
            for name, log in mesh[1]:
                self.assertEqual(words_had(mesh, name), [record[:2] for record in log])
            kinds.update(fault[3] for fault in mesh_faults(mesh))
        self.assertEqual(kinds, {"less", "more"})
        self.assertEqual(Mesh(MESH).mesh(), MESH)


class Arguments(ArgumentChecks, unittest.TestCase):
    def test_wrong_arguments(self):
        meshes = (MESH[:2], (), list(MESH), replaced(MESH, (0, 0), 9), MESH[:2] + ((("x", "y", "#"),),))
        names = ("v", "", ("x",), "x ")
        self.check_arguments(words_had, (MESH, "x"), (InvalidMesh, InvalidNames), (meshes, names))
        for function in (is_settled, mesh_faults):
            self.check_arguments(function, (MESH,), (InvalidMesh,), (meshes,))
        self.check_arguments(
            fresh_mesh, (("all", "kept"), ("x", "y"), (("x", "y", "#"),)),
            (InvalidMeshManner, InvalidNames, InvalidBridges),
            ((("all",), ("all", "none"), (9, "kept"), ["all", "kept"]), (("y", "x"), ()), ((("x", "z", "#"),), ())[:1]),
        )

    def test_new_lists(self):
        words_had(MESH, "x").clear()
        mesh_faults(MESH).clear()
        self.assertEqual((len(words_had(MESH, "x")), len(mesh_faults(MESH))), (3, 3))


if __name__ == "__main__":
    unittest.main()
