"""[41], [78]: paths of topics in meshes, and rings; of [3] how often words come without a book."""

import random
import unittest
from itertools import permutations

from heardonce.errors import InvalidMesh, InvalidNames, InvalidTopic
from heardonce.meshes import fresh_mesh, is_settled, words_had
from heardonce.meshevents import mesh_after
from heardonce.meshpaths import brokers_reached, comes_to_rest, paths_between, rings_of_topic
from heardonce.meshruns import settled_by
from tests.arguments import ArgumentChecks
from tests.bridges import TOPICS, all_paths, all_rings, path_counts, short_paths, some_mesh

RING = fresh_mesh(("none", "kept"), ("x", "y", "z"), (("x", "y", "#"), ("y", "z", "a/#"), ("z", "x", "#")))
# No path that comes to an end has more places (ahead, broker) than there are.
LONGEST = 22


def mesh_of(names, *pairs):
    return fresh_mesh(("none", "kept"), tuple(names), tuple(sorted((pair[0], pair[1], "#") for pair in pairs)))


def check_mesh_beside_paths(case, mesh):
    names = [name for name, _ in mesh[1]]
    for topic in TOPICS:
        case.assertEqual(rings_of_topic(mesh, topic), all_rings(mesh, topic))
        for name in names:
            reached = sorted({path[-1] for path in short_paths(mesh, topic, name)})
            case.assertEqual(brokers_reached(mesh, topic, name), reached)
            rows = path_counts(mesh, topic, name, 2 * LONGEST)
            case.assertIs(comes_to_rest(mesh, topic, name), not any(rows[-1].values()))
            for other in names:
                # Longer ones than there are places go round, and so there is no end of them.
                many = None if any(row[other] for row in rows[LONGEST:]) else sum(row[other] for row in rows)
                case.assertEqual(paths_between(mesh, topic, name, other), many, (mesh, topic, name, other))
            check_one_by_one(case, mesh, topic, name)


def check_one_by_one(case, mesh, topic, name):
    paths = all_paths(mesh, topic, name, 2 * LONGEST)
    if paths is not None:
        for other, _ in mesh[1]:
            lengths = [len(path) for path in paths if path[-1] == other]
            many = None if max(lengths, default=0) > LONGEST else len(lengths)
            case.assertEqual(paths_between(mesh, topic, name, other), many)


class Beside(unittest.TestCase):
    def test_all_meshes_of_three(self):
        pairs = list(permutations("xyz", 2))
        for bits in range(2 ** len(pairs)):
            mesh = mesh_of("xyz", *[pair for at, pair in enumerate(pairs) if bits >> at & 1])
            check_mesh_beside_paths(self, mesh)

    def test_drawn_meshes(self):
        dice = random.Random(78)
        for _ in range(80):
            mesh = some_mesh(dice)
            few = mesh[2][:dice.randrange(len(mesh[2]) + 1)]
            closed = tuple(bridge[:3] + (dice.randrange(2) > 0, 0) for bridge in few)
            check_mesh_beside_paths(self, mesh[:2] + (closed,))


class Reached(unittest.TestCase):
    def test_closed_bridges_lead_too(self):
        closed = RING[:2] + (tuple(bridge[:3] + (False, 0) for bridge in RING[2]),)
        self.assertEqual(brokers_reached(closed, "a", "y"), ["x", "y", "z"])
        self.assertIs(comes_to_rest(closed, "a", "x"), False)
        self.assertEqual(rings_of_topic(closed, "a"), [("x", "y", "z")])
        self.assertEqual(paths_between(closed, "b", "z", "y"), 1)

    def test_alone(self):
        mesh = mesh_of("x")
        self.assertEqual(brokers_reached(mesh, "a", "x"), ["x"])
        self.assertEqual(paths_between(mesh, "a", "x", "x"), 1)
        self.assertIs(comes_to_rest(mesh, "a", "x"), True)
        self.assertEqual(rings_of_topic(mesh, "a"), [])


class Paths(unittest.TestCase):
    def test_there_and_back(self):
        # From a to b and back would be a, b, a.
        mesh = mesh_of("ab", "ab", "ba")
        self.assertEqual([paths_between(mesh, "t", "a", other) for other in "ab"], [1, 1])
        self.assertIs(comes_to_rest(mesh, "t", "a"), True)
        chain = mesh_of("abcd", "ab", "ba", "bc", "cb", "cd", "dc")
        self.assertEqual([paths_between(chain, "t", "b", other) for other in "abcd"], [1, 1, 1, 1])

    def test_rings_with_bridges_there_and_back(self):
        for names in ("abc", "abcd", "abcde"):
            pairs = [one + other for one, other in zip(names, names[1:] + names[:1])]
            mesh = mesh_of(names, *pairs, *[pair[::-1] for pair in pairs])
            self.assertEqual(rings_of_topic(mesh, "t"), sorted([tuple(names), ("a",) + tuple(names[:0:-1])]))
            for name in names:
                self.assertIsNone(paths_between(mesh, "t", "a", name))
                self.assertIs(comes_to_rest(mesh, "t", name), False)
            one_way = mesh_of(names, *pairs)
            self.assertEqual(rings_of_topic(one_way, "t"), [tuple(names)])
            self.assertIsNone(paths_between(one_way, "t", "a", "a"))

    def test_to_itself_with_a_ring_that_never_comes_back(self):
        mesh = mesh_of("abcd", "ab", "bc", "cd", "db")
        self.assertEqual(paths_between(mesh, "t", "a", "a"), 1)
        self.assertIsNone(paths_between(mesh, "t", "a", "b"))
        self.assertEqual(paths_between(mesh, "t", "b", "a"), 0)
        self.assertIs(comes_to_rest(mesh, "t", "a"), False)

    def test_several_ways(self):
        mesh = mesh_of("abcde", "ab", "ac", "bd", "cd", "de", "be")
        self.assertEqual([paths_between(mesh, "t", "a", other) for other in "abcde"], [1, 1, 1, 2, 3])

    def test_twice_over_one_broker_with_an_end(self):
        # The way from a to b, round c and d, and on to a again stands still there: there is no bridge but to b.
        mesh = mesh_of("abcd", "ab", "bc", "cd", "db", "ba")
        self.assertIsNone(paths_between(mesh, "t", "a", "a"))
        self.assertEqual(rings_of_topic(mesh, "t"), [("b", "c", "d")])

    def test_topics(self):
        self.assertEqual(rings_of_topic(RING, "a/c"), [("x", "y", "z")])
        self.assertEqual(rings_of_topic(RING, "b/a"), [])
        self.assertEqual([paths_between(RING, "b", "y", other) for other in "xyz"], [0, 1, 0])


class Promises(unittest.TestCase):
    """[3]: of a mesh without a book, with nothing parted, that came of a fresh one."""

    def test_words_come_as_often_as_paths_lead_there(self):
        dice = random.Random(41)
        settled = rests = 0
        for _ in range(400):
            mesh = some_mesh(dice, ("none", dice.choice(("kept", "anew", "skip"))))
            mesh = mesh[:2] + (mesh[2][:6],)
            name, topic = mesh[1][0][0], dice.choice(TOPICS)
            is_end = comes_to_rest(mesh, topic, name)
            behind = settled_by(mesh_after(mesh, ("tell", name, topic)), 200)
            reached = set(brokers_reached(mesh, topic, name))
            rings = [ring for ring in rings_of_topic(mesh, topic) if set(ring) & reached]
            self.assertIs(is_end, not rings)
            rests += not is_end
            if is_end:
                self.assertIs(is_settled(behind[0]), True)
                settled += 1
                for other, _ in mesh[1]:
                    had = words_had(behind[0], other).count((name, 0))
                    self.assertEqual(had, paths_between(mesh, topic, name, other))
            else:
                self.assertTrue(behind is None or not is_settled(behind[0]))
        self.assertGreater(min(settled, rests), 20)


class Arguments(ArgumentChecks, unittest.TestCase):
    def test_wrong_arguments(self):
        meshes, topics, names = (RING[:2], ()), ("#", "a/+", ""), ("w", "", ("x",))
        errors = (InvalidMesh, InvalidTopic, InvalidNames, InvalidNames)
        wrong = (meshes, topics, names, names)
        self.check_arguments(brokers_reached, (RING, "a", "x"), errors[:3], wrong[:3])
        self.check_arguments(paths_between, (RING, "a", "x", "y"), errors, wrong)
        self.check_arguments(rings_of_topic, (RING, "a"), errors[:2], wrong[:2])
        self.check_arguments(comes_to_rest, (RING, "a", "x"), errors[:3], wrong[:3])

    def test_new_lists(self):
        brokers_reached(RING, "a", "x").clear()
        rings_of_topic(RING, "a").clear()
        self.assertTrue(brokers_reached(RING, "a", "x") and rings_of_topic(RING, "a"))


if __name__ == "__main__":
    unittest.main()
