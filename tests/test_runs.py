"""[3]: worlds in manners that are ahead and careful, with much harm, led to rest."""

import random
import unittest

from heardonce.events import events_that_can, happened, happened_all
from heardonce.worlds import faults_of, fresh_world, is_at_rest, is_world
from tests.runs import HARSH, NAMES, some_run

# Words ahead of others are done first; what is lost at last only makes room where all lines are full.
CALM_ORDER = ("arrive", "pass", "again", "lose")


def calm_event(world):
    possible = events_that_can(world)
    for word in CALM_ORDER:
        found = [event for event in possible if event[0] == word]
        if found:
            return found[0]
    return None


def led_to_rest(world):
    for _ in range(1500):
        if is_at_rest(world):
            return world
        world = happened(world, calm_event(world))
    return world


class Harm(unittest.TestCase):
    def check_run(self, seed, ring, harsh):
        dice = random.Random(seed)
        names = NAMES[:dice.randrange(1, 4)]
        events, model = some_run(dice, (ring, True, True), 150, harsh, names)
        world = fresh_world((ring, True, True), names)
        for event in events:
            world = happened(world, event)
            self.assertFalse([fault for fault in faults_of(world) if fault[-1] == "more"])
        self.assertEqual(world, model.world())
        world = led_to_rest(world)
        self.assertTrue(is_world(world))
        self.assertTrue(is_at_rest(world))
        self.assertEqual(faults_of(world), [])
        self.check_counts(world)

    def check_counts(self, world):
        """Words in pairs are heard and taken in just as often as due and given, marked ones at least, light at most."""
        heard = [(client[0],) + word for client in world[1] for word in client[3]]
        for name in [client[0] for client in world[1]]:
            for word in {due[2:] for due in world[4] if due[0] == name}:
                light, marked, paired = [world[4].count((name, way) + word) for way in ("light", "marked", "paired")]
                often = heard.count((name,) + word)
                self.assertGreaterEqual(often, marked + paired)
                if not marked:
                    self.assertLessEqual(often, paired + light)
        for word in set(world[5]) | set(world[6]):
            given, owned = world[5].count(word), world[6].count(word)
            if word[1] == "paired":
                self.assertEqual(owned, given)
            elif word[1] == "marked":
                self.assertGreaterEqual(owned, given)
            else:
                self.assertLessEqual(owned, given)

    def test_harsh_rows(self):
        for seed in range(60):
            self.check_run(seed, (1, 2, 3, 8)[seed % 4], HARSH)

    def test_rows_full_of_harm(self):
        harsh = {**HARSH, "lose": 5, "double": 9, "turn": 9, "again": 8, "stop": 2}
        for seed in range(60):
            self.check_run(seed, (1, 2, 3, 8)[seed % 4], harsh)


class OtherManners(unittest.TestCase):
    """What the two bools of a manner are good for."""

    def test_heard_twice_if_not_careful(self):
        events = (
            ("give", "ann", "paired", "a", 7), ("double", "ann", "coming", 0), ("arrive", "ann", "coming"),
            ("arrive", "ann", "going"), ("turn", "ann", "coming", 0), ("arrive", "ann", "coming"),
            ("arrive", "ann", "coming"),
        )
        world = happened_all(fresh_world((1, True, False), ("ann",)), events)
        self.assertEqual(faults_of(world), [("owned", "ann", "paired", "a", 7, "more")])
        careful = happened_all(fresh_world((1, True, True), ("ann",)), events[:4])
        self.assertEqual(careful[3][0][1], (("word", "paired", 0, False, "a", 7),))

    def test_lost_if_not_ahead(self):
        events = (("give", "ann", "paired", "a", 7), ("stop", "ann"))
        world = happened_all(fresh_world((1, False, True), ("ann",)), events)
        self.assertTrue(is_at_rest(world))
        self.assertEqual(faults_of(world), [("owned", "ann", "paired", "a", 7, "less")])
        ahead = happened_all(fresh_world((1, True, True), ("ann",)), events)
        self.assertEqual(faults_of(led_to_rest(ahead)), [])

    def test_written_by_hand(self):
        world = happened_all(fresh_world((1, False, True), ("ann",)), (
            ("give", "ann", "paired", "a", 7), ("write", "ann"), ("stop", "ann"),
        ))
        self.assertFalse(is_at_rest(world))
        self.assertEqual(events_that_can(world)[0], ("again", "ann", "coming", 0))


if __name__ == "__main__":
    unittest.main()
