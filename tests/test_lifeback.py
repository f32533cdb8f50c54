"""[47], [48], [84]: facts, and ways that explain them; of [3] that none does with less harm than the least one."""

import random
import unittest
from unittest import mock

from heardonce.errors import (
    InvalidEvents, InvalidFacts, InvalidNumber, InvalidTale, InvalidWorld, TooMany,
)
from heardonce.lifeback import are_facts, explaining, explains, facts_hold, least_told, worlds_near
from heardonce.lifetales import told_on, world_of
from heardonce.worlds import fresh_world
from tests.arguments import ArgumentChecks
from tests.model import Impossible, Model, all_named_events
from tests.runs import HARSH, MANNERS, some_run
from tests.values import ODD_VALUES, bent, replaced

FACTS = (
    ("rest",), ("heard", "ann", "a/b", 7, 1), ("owned", "bob", "a", 999, 200), ("frames", 0), ("faults", 3),
)
TALE = (
    (2, True, True), ("ann", "bob"), (("wish", "bob", "a/#", "paired"), ("give", "ann", "paired", "a/b", 7)),
)
ARRIVED = TALE[:2] + (TALE[2] + (("arrive", "ann", "coming"),),)
HARMS = ("lose", "double", "turn", "stop")


def model_of(tale):
    model = Model(tale[0], tale[1])
    for event in tale[2]:
        model = model.behind(event)
    return model


def all_ways(tale, most):
    """All ways of at most so many events, one by one, with the models behind them."""
    events = all_named_events(tale[1])
    layers = [[((), model_of(tale))]]
    for _ in range(most):
        layer = []
        for way, model in layers[-1]:
            for event in events:
                try:
                    layer.append((way + (event,), model.behind(event)))
                except Impossible:
                    pass
        layers.append(layer)
    return [pair for layer in layers for pair in layer]


def harm_of_way(way):
    return sum(event[0] in HARMS for event in way)


def holds(model, fact):
    if fact[0] == "rest":
        return model.is_at_rest()
    if fact[0] == "frames":
        return sum(map(len, model.frames.values())) == fact[1]
    if fact[0] == "faults":
        return len(model.faults()) == fact[1]
    word, name, topic, body, many = fact
    if name not in model.names:
        return False
    if word == "heard":
        return model.heard[name].count((topic, body)) == many
    return sum((one[0],) + one[2:] == (name, topic, body) for one in model.owned) == many


def some_facts(dice, tale, ways):
    """Facts, most of which hold behind some way."""
    model = dice.choice(ways)[1]
    name = dice.choice(tale[1])
    words = [event[3:] for event in tale[2] if event[0] == "give"] or [("a", 0)]
    topic, body = dice.choice(words)
    facts = [
        ("frames", sum(map(len, model.frames.values()))), ("faults", len(model.faults())),
        ("heard", name, topic, body, model.heard[name].count((topic, body))),
        ("owned", name, topic, body, sum((one[0],) + one[2:] == (name, topic, body) for one in model.owned)),
        ("frames", dice.randrange(4)), ("rest",), ("heard", "zoe", "a", 0, 0),
    ]
    return tuple(dice.sample(facts[:4] if dice.randrange(4) else facts, dice.randrange(1, 4)))


class Facts(unittest.TestCase):
    def test_facts(self):
        for facts in ((), FACTS, FACTS[:1] * 12, FACTS[::-1]):
            self.assertIs(are_facts(facts), True)
        for value in bent(FACTS) + list(ODD_VALUES) + [FACTS[:1] * 13, list(FACTS), FACTS[0], (FACTS,)]:
            self.assertIs(are_facts(value), False, value)

    def test_bounds(self):
        for path, value, is_one in (
            ((0,), ("rest", 0), False), ((0,), ("calm",), False), ((1, 4), 200, True), ((1, 4), 201, False),
            ((1, 4), 0, True), ((1, 4), -1, False), ((1, 3), 1000, False), ((1, 2), "a/#", False), ((1, 1), "", False),
            ((1, 1), "zoe", True), ((2, 4), 201, False), ((3, 1), 200, True), ((3, 1), 201, False),
            ((4, 1), 200, True), ((4, 1), 201, False), ((3,), ("frames",), False), ((3,), ("frames", 0, 0), False),
            ((1,), FACTS[1][:4], False), ((1,), FACTS[1] + (0,), False), ((1, 0), "frames", False),
            ((3, 0), "faults", True), ((3, 0), "rest", False), ((1, 0), "owned", True),
        ):
            self.assertIs(are_facts(replaced(FACTS, path, value)), is_one, (path, value))

    def test_hold(self):
        world = world_of(ARRIVED)
        for fact, is_so in (
            (("rest",), False), (("frames", 1), True), (("frames", 0), False), (("faults", 1), True),
            (("faults", 0), False), (("heard", "bob", "a/b", 7, 0), True), (("heard", "bob", "a/b", 7, 1), False),
            (("owned", "ann", "a/b", 7, 1), True), (("owned", "ann", "a/b", 7, 0), False),
            (("owned", "ann", "a/b", 8, 0), True), (("owned", "bob", "a/b", 7, 0), True),
            (("owned", "bob", "a/b", 7, 1), False), (("heard", "zoe", "a", 7, 0), False),
            (("owned", "zoe", "a", 7, 0), False), (("frames", 200), False),
        ):
            self.assertIs(facts_hold(world, (fact,)), is_so, fact)
            self.assertIs(facts_hold(world, (("frames", 1), fact)), is_so, fact)
        self.assertIs(facts_hold(world, ()), True)
        self.assertIs(facts_hold(fresh_world((1, True, True), ("a",)), (("rest",), ("frames", 0), ("faults", 0))), True)

    def test_beside_another_telling(self):
        dice = random.Random(47)
        told = set()
        for manner in MANNERS:
            for _ in range(6):
                events, model = some_run(dice, manner, 50, HARSH, ("ann", "bob"))
                tale = (manner, ("ann", "bob"), events)
                for _ in range(6):
                    facts = some_facts(dice, tale, [((), model)])
                    is_so = all(holds(model, fact) for fact in facts)
                    self.assertIs(facts_hold(model.world(), facts), is_so)
                    told.add(is_so)
        self.assertEqual(told, {True, False})

    def test_any_ways_are_added(self):
        world = replaced(fresh_world((1, True, True), ("a",)), (6,), (("a", "light", "t", 1), ("a", "paired", "t", 1)))
        self.assertIs(facts_hold(world, (("owned", "a", "t", 1, 2),)), True)


class Near(unittest.TestCase):
    def tales(self, seed, many):
        dice = random.Random(seed)
        for _ in range(many):
            manner = dice.choice(MANNERS)
            names = dice.choice((("ann",), ("ann",), ("ann", "bob")))
            events, _ = some_run(dice, manner, dice.randrange(12), HARSH, names)
            yield dice, (manner, names, events)

    def test_beside_all_ways(self):
        found = set()
        for dice, tale in self.tales(84, 60):
            most = dice.choice((0, 1, 1, 2)) if len(tale[1]) == 2 else dice.choice((0, 1, 2, 3))
            ways = all_ways(tale, most)
            self.assertEqual(worlds_near(tale, most), len({model.world() for _, model in ways}))
            for _ in range(6):
                facts = some_facts(dice, tale, ways)
                fitting = [way for way, model in ways if all(holds(model, fact) for fact in facts)]
                least = min(map(harm_of_way, fitting), default=None)
                self.assertEqual(least_told(tale, facts, most), least)
                way = explaining(tale, facts, most)
                self.assertEqual(way is None, not fitting)
                found.add(least)
                if fitting:
                    self.assertIn(way, fitting)
                    self.assertEqual(harm_of_way(way), least)
                    self.assertIs(explains(tale, facts, way), True)
                for way, _ in dice.sample(ways, min(len(ways), 20)):
                    self.assertIs(explains(tale, facts, way), way in fitting)
        self.assertLessEqual({None, 0, 1}, found)

    def test_longer_ways_with_less_harm(self):
        # One loss empties the line at once; two arrivals and a "taken" that is lost would take more.
        facts = (("frames", 0), ("owned", "ann", "a/b", 7, 1))
        self.assertEqual([least_told(TALE, facts, most) for most in range(6)], [None, None, 1, 1, 0, 0])
        self.assertEqual(explaining(TALE, facts, 4), (
            ("arrive", "ann", "coming"), ("arrive", "ann", "going"), ("arrive", "ann", "coming"),
            ("arrive", "ann", "going"),
        ))
        self.assertEqual(len(explaining(TALE, facts, 2)), 2)

    def test_longer_ways_to_the_same_world(self):
        double, coming = ("double", "a", "coming", 0), ("arrive", "a", "coming")
        tale = ((1, True, True), ("a",), (
            ("give", "a", "marked", "t", 5), double, double, coming, coming, coming, ("arrive", "a", "going"),
        ))
        # Two answers without an entry stand on the line: a stop takes both away, and so do two arrivals.
        facts = (("frames", 0),)
        self.assertEqual([least_told(tale, facts, most) for most in range(4)], [None, 1, 0, 0])
        self.assertEqual(explaining(tale, facts, 3), (("arrive", "a", "going"),) * 2)

    def test_nothing_to_explain(self):
        for most in range(4):
            self.assertEqual(least_told(TALE, (), most), 0)
            self.assertEqual(harm_of_way(explaining(TALE, (), most)), 0)
        self.assertEqual(explaining(TALE, (), 0), ())

    def test_too_many(self):
        names = ("a", "b", "c", "d")
        events = tuple(("give", name, "marked", "t", body) for name in names for body in (1, 2, 3))
        tale = ((3, False, True), names, events)
        self.assertGreater(worlds_near(tale, 1), 30)
        for function, more in ((worlds_near, ()), (least_told, ((),)), (explaining, ((("rest",),),))):
            with self.assertRaises(TooMany) as caught:
                function(tale, *more, 3)
            self.assertEqual(caught.exception.limit, 1000)
        self.assertRaises(InvalidNumber, worlds_near, tale, 7)
        self.assertRaises(InvalidFacts, least_told, tale, (("rests",),), 6)

    def test_the_limit(self):
        # Worlds are counted, not ways: of a client with nothing there is just one.
        for most in range(7):
            self.assertEqual(worlds_near(((8, True, True), ("a",), ()), most), 1)
        sizes = {}
        for dice, tale in self.tales(85, 40):
            for most in range(7):
                try:
                    sizes[most] = max(sizes.get(most, 0), worlds_near(tale, most))
                except TooMany:
                    self.assertGreater(worlds_near(tale, 1), 1)
                    break
        self.assertTrue(all(size <= 1000 for size in sizes.values()))
        self.assertGreater(max(sizes.values()), 300)


    def test_just_so_many(self):
        for _, tale in self.tales(86, 10):
            many = worlds_near(tale, 2)
            for limit in (many - 1, many):
                with mock.patch("heardonce.lifeback.MOST_WORLDS", limit):
                    if limit < many and many > 1:
                        self.assertRaises(TooMany, worlds_near, tale, 2)
                    elif many > 1:
                        self.assertEqual(worlds_near(tale, 2), many)


class Explains(unittest.TestCase):
    FACTS = (("frames", 0),)

    def test_bent_ways(self):
        way = (("arrive", "ann", "coming"), ("arrive", "ann", "going"), ("lose", "ann", "coming", 0))
        self.assertIs(explains(TALE, self.FACTS, way), True)
        for other in (
            way[:2], way[1:], way[::-1], way + (("pass", "bob"),), (("arrive", "bob", "coming"),) + way,
            replaced(way, (2, 3), 1), replaced(way, (2, 2), "going"), replaced(way, (0, 1), "cid"),
            way[:2] + (("double", "ann", "coming", 0),) + way[2:],
        ):
            self.assertIs(explains(TALE, self.FACTS, other), False, other)
        self.assertIs(explains(TALE, self.FACTS, way + (("write", ""),)), True)

    def test_words_of_plans(self):
        lose = ("lose", "ann", "coming", 0)
        for event in (
            ("give", "ann", "light", "a", 0), ("wish", "ann", "a", "light"), ("unwish", "bob", "a/#"),
        ):
            for way in ((event, lose), (lose, event)):
                self.assertIs(explains(TALE, (), way), False)
            self.assertEqual(told_on(TALE, (event,))[2][-1], event)
        self.assertIs(explains(TALE, (), (lose,)), True)

    def test_six_and_seven(self):
        write = ("write", "")
        for many in range(9):
            self.assertIs(explains(TALE, (), (write,) * many), many <= 6)
        self.assertIs(explains(TALE, (), (write,) * 200), False)
        self.assertRaises(InvalidEvents, explains, TALE, (), (write,) * 201)
        self.assertRaises(InvalidEvents, explains, TALE, (), (write,) * 7 + (("writes", ""),))


class Arguments(ArgumentChecks, unittest.TestCase):
    def test_wrong_arguments(self):
        tales, facts = (TALE[:2], ()), ((("rest", 1),), FACTS[:1] * 13, ["rest"], ("rest",))
        events, numbers = ((("pass",),), ("pass", "ann"), [("pass", "ann")]), (7, -1, 200)
        self.check_arguments(facts_hold, (world_of(TALE), FACTS), (InvalidWorld, InvalidFacts), ((TALE, ()), facts))
        self.check_arguments(worlds_near, (TALE, 1), (InvalidTale, InvalidNumber), (tales, numbers))
        for function in (least_told, explaining):
            self.check_arguments(
                function, (TALE, FACTS, 1), (InvalidTale, InvalidFacts, InvalidNumber), (tales, facts, numbers),
            )
        self.check_arguments(
            explains, (TALE, FACTS, ()), (InvalidTale, InvalidFacts, InvalidEvents), (tales, facts, events),
        )


if __name__ == "__main__":
    unittest.main()
