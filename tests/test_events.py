"""[10] to [12], [53]: events, whether they can happen, and the worlds behind them."""

import random
import unittest
from itertools import product

from heardonce.errors import CannotHappen, InvalidEvent, InvalidEvents, InvalidWorld
from heardonce.events import can_happen, events_that_can, happened, happened_all, is_event
from heardonce.worlds import faults_of, fresh_world, is_at_rest, is_world
from tests.arguments import ArgumentChecks
from tests.model import Impossible, Model, all_named_events
from tests.runs import CALM, HARSH, MANNERS, NAMES, some_event, some_run
from tests.test_worlds import RICH
from tests.values import ODD_VALUES, bent, part_at, replaced

EVENTS = (
    ("give", "ann", "light", "a/b", 7), ("give", "zzzzzz", "paired", "a", 999), ("wish", "ann", "a/+/#", "marked"),
    ("unwish", "bob", "#"), ("pass", "ann"), ("arrive", "ann", "coming"), ("arrive", "ann", "going"),
    ("lose", "ann", "coming", 0), ("double", "ann", "going", 11), ("turn", "ann", "coming", 5),
    ("again", "ann", "going", 7), ("again", "ann", "coming", 0), ("write", "ann"), ("write", ""), ("stop", "ann"),
    ("stop", ""),
)
SORTS = tuple((ahead, careful) for ahead in (False, True) for careful in (False, True))
COMING, GOING = (3, 0, 1), (3, 0, 2)
CLIENT_BOOK, CLIENT_TAKING = (1, 0, 1, 0), (1, 0, 1, 1)
SESSION_BOOK, SESSION_TAKING, WAITING = (2, 0, 2, 0), (2, 0, 2, 1), (2, 0, 2, 2)
HEARD, WISHES = (1, 0, 3), (2, 0, 1)
DUE, GIVEN, OWNED = (4,), (5,), (6,)


def world_of(ahead, careful, parts, ring=4, names=("ann", "bob")):
    """A fresh world with other parts, logs being like memories, as they are in a manner that is ahead."""
    world = fresh_world((ring, ahead, careful), names)
    for path, part in parts.items():
        world = replaced(world, path, part)
    return with_logs(world)


def with_logs(world):
    clients = tuple((name, memory, memory, heard) for name, memory, _, heard in world[1])
    sessions = tuple((name, wishes, memory, memory) for name, wishes, memory, _ in world[2])
    return world[:1] + (clients, sessions) + world[3:]


def word(way, number, topic="a", body=1, again=False):
    return ("word", way, number, again, topic, body)


def light(body=1):
    return ("word", "light", None, False, "a", body)


class EventKinds(unittest.TestCase):
    def test_events(self):
        self.assertEqual(len({event[0] for event in EVENTS}), 11)
        for event in EVENTS:
            self.assertIs(is_event(event), True)
            self.assertIs(is_event(event + (0,)), False)
            self.assertIs(is_event(event[:-1]), False)
            self.assertIs(is_event(event[1:]), False)

    def test_items_of_other_kinds(self):
        for event in EVENTS:
            for other in bent(event):
                self.assertIs(is_event(other), False, other)

    def test_items_just_outside(self):
        for name in ("lose", "double", "turn"):
            for index, is_one in ((-1, False), (0, True), (11, True), (12, False), (True, False)):
                self.assertIs(is_event((name, "ann", "coming", index)), is_one)
        for number, is_one in ((-1, False), (0, True), (7, True), (8, False), (None, False)):
            self.assertIs(is_event(("again", "ann", "coming", number)), is_one)
        for side in ("", "Coming", "there", "going "):
            self.assertIs(is_event(("arrive", "ann", side)), False)
            self.assertIs(is_event(("lose", "ann", side, 0)), False)
        for name in ("", "abcdefg", "a/b", "+"):
            for event in EVENTS[:12]:
                self.assertIs(is_event(replaced(event, (1,), name)), False)
            self.assertIs(is_event(("write", name)), name == "")
            self.assertIs(is_event(("stop", name)), name == "")

    def test_words_and_odd_values(self):
        for value in ODD_VALUES + ((), ("give",), ("come", "ann"), "pass", ["pass", "ann"], (["pass"], "ann")):
            self.assertIs(is_event(value), False)

    def test_whether_they_can_happen_or_not(self):
        self.assertIs(is_event(("pass", "nobody")), True)
        self.assertIs(can_happen(RICH, ("pass", "nobody")), False)


class EachEvent(unittest.TestCase):
    """Each event, in all four sorts of manners."""

    def check_event(self, before, event, after, ring=4, names=("ann", "bob")):
        """`before` and `after` are the parts of a world told by paths; None behind is that it can't happen."""
        for ahead, careful in SORTS:
            self.check_sort(ahead, careful, before, event, after, ring, names)

    def check_sort(self, ahead, careful, before, event, after, ring=4, names=("ann", "bob")):
        world = world_of(ahead, careful, before, ring, names)
        self.assertTrue(is_world(world))
        if after is None:
            self.assertIs(can_happen(world, event), False, (ahead, careful, event))
            with self.assertRaises(CannotHappen):
                happened(world, event)
            self.assertNotIn(event, events_that_can(world))
            return
        behind = world
        for path, part in after.items():
            behind = replaced(behind, path, part)
        behind = with_logs(behind) if ahead else behind
        self.assertIs(can_happen(world, event), True, (ahead, careful, event))
        self.assertEqual(happened(world, event), behind, (ahead, careful, event))
        self.assertTrue(is_world(behind))
        self.assertEqual(event in events_that_can(world), event[0] not in ("give", "wish", "unwish"))

    def test_give(self):
        for way in ("marked", "paired"):
            told = ("ann", way, "a", 1)
            entry = (0, way, "sent", "a", 1)
            event = ("give",) + told
            self.check_event({}, event, {CLIENT_BOOK: (entry,), COMING: (word(way, 0),), GIVEN: (told,)})
            book = ((0, "marked", "sent", "b", 1), (1, "paired", "let", "b", 1), (3, "paired", "let", "b", 1))
            self.check_event({CLIENT_BOOK: book, COMING: (light(),), GIVEN: (told,)}, event, {
                CLIENT_BOOK: book[:2] + ((2,) + entry[1:],) + book[2:], COMING: (light(), word(way, 2)),
                GIVEN: (told, told),
            })
            full = book[:2] + ((2,) + entry[1:],) + book[2:]
            self.check_event({CLIENT_BOOK: full}, event, None)
            self.check_event({}, ("give", "cid") + told[1:], None)
        self.check_event({CLIENT_BOOK: full}, ("give", "ann", "light", "a", 1), {
            COMING: (light(),), GIVEN: (("ann", "light", "a", 1),),
        })

    def test_give_on_full_lines(self):
        for way in ("light", "marked", "paired"):
            event = ("give", "ann", way, "a", 1)
            self.check_event({COMING: (light(),) * 12}, event, None)
            self.check_event({GIVEN: (("ann", "light", "a", 1),) * 100}, event, None)
            number = None if way == "light" else 0
            behind = {COMING: (light(2),) * 11 + (word(way, number),), GIVEN: (("ann", way, "a", 1),)}
            if number is not None:
                behind[CLIENT_BOOK] = ((0, way, "sent", "a", 1),)
            self.check_event({COMING: (light(2),) * 11}, event, behind)

    def test_give_with_numbers_on_the_line(self):
        event, told = ("give", "ann", "paired", "a", 1), (("ann", "paired", "a", 1),)
        for frame in (word("marked", 0, "b"), ("heard", 0), ("taken", 0), ("let", 0), ("done", 0)):
            for path in (COMING, GOING):
                for ahead, careful in SORTS:
                    number = 1 if careful else 0
                    behind = {CLIENT_BOOK: ((number, "paired", "sent", "a", 1),), GIVEN: told}
                    behind[COMING] = ((frame,) if path == COMING else ()) + (word("paired", number),)
                    self.check_sort(ahead, careful, {path: (frame,)}, event, behind)
                self.check_sort(True, True, {path: (frame,)}, event, None, 1)
                self.check_sort(False, True, {path: (frame,)}, event, None, 1)

    def test_wish(self):
        pairs = (("+", "light"), ("a", "marked"), ("b", "paired"), ("c", "light"))
        self.check_event({}, ("wish", "ann", "#", "paired"), {WISHES: (("#", "paired"),)})
        self.check_event({WISHES: pairs[:2]}, ("wish", "ann", "b", "paired"), {WISHES: pairs[:3]})
        self.check_event({WISHES: pairs[1:]}, ("wish", "ann", "+", "light"), {WISHES: pairs})
        self.check_event({WISHES: pairs}, ("wish", "ann", "a", "light"), {
            WISHES: (pairs[0], ("a", "light")) + pairs[2:],
        })
        self.check_event({WISHES: pairs}, ("wish", "ann", "b", "paired"), {})
        self.check_event({WISHES: pairs}, ("wish", "ann", "d", "light"), None)
        self.check_event({}, ("wish", "cid", "a", "light"), None)
        self.check_event({}, ("wish", "bob", "a", "light"), {(2, 1, 1): (("a", "light"),)})

    def test_unwish(self):
        pairs = (("+", "light"), ("a", "marked"), ("b", "paired"))
        self.check_event({WISHES: pairs}, ("unwish", "ann", "a"), {WISHES: pairs[::2]})
        self.check_event({WISHES: pairs}, ("unwish", "ann", "a/#"), None)
        self.check_event({WISHES: pairs}, ("unwish", "bob", "a"), None)
        self.check_event({WISHES: pairs}, ("unwish", "cid", "a"), None)
        self.check_event({}, ("unwish", "ann", "a"), None)

    def test_pass(self):
        waiting = (("paired", "a", 1), ("light", "b", 2), ("marked", "a", 1))
        self.check_event({WAITING: waiting}, ("pass", "ann"), {
            WAITING: waiting[1:], GOING: (word("paired", 0),), SESSION_BOOK: ((0, "paired", "sent", "a", 1),),
        })
        self.check_event({WAITING: waiting[1:], GOING: (light(),)}, ("pass", "ann"), {
            WAITING: waiting[2:], GOING: (light(), ("word", "light", None, False, "b", 2)),
        })
        book = ((0, "paired", "sent", "b", 1), (2, "marked", "sent", "b", 1))
        self.check_event({WAITING: waiting[2:], SESSION_BOOK: book}, ("pass", "ann"), {
            WAITING: (), GOING: (word("marked", 1),), SESSION_BOOK: (book[0], (1, "marked", "sent", "a", 1), book[1]),
        })
        self.check_event({}, ("pass", "ann"), None)
        self.check_event({WAITING: waiting}, ("pass", "bob"), None)
        self.check_event({WAITING: waiting}, ("pass", "cid"), None)
        for frames in ((light(),) * 12, (("heard", 3),) * 12):
            self.check_event({WAITING: waiting, GOING: frames}, ("pass", "ann"), None)
            self.check_event({WAITING: waiting[1:], GOING: frames}, ("pass", "ann"), None)
        full = ((0, "paired", "sent", "a", 1),)
        self.check_event({WAITING: waiting, SESSION_BOOK: full}, ("pass", "ann"), None, 1)
        self.check_event({WAITING: waiting[1:], SESSION_BOOK: full}, ("pass", "ann"), {
            WAITING: waiting[2:], GOING: (("word", "light", None, False, "b", 2),),
        }, 1)
        self.check_sort(True, True, {WAITING: waiting, COMING: (("taken", 0),)}, ("pass", "ann"), None, 1)

    def test_words_arrive_at_clients(self):
        event = ("arrive", "ann", "going")
        heard = (("a", 1),)
        self.check_event({GOING: (light(), light(2))}, event, {GOING: (light(2),), HEARD: heard})
        self.check_event({GOING: (word("marked", 3),), COMING: (light(),)}, event, {
            GOING: (), HEARD: heard, COMING: (light(), ("heard", 3)),
        })
        self.check_event({GOING: (word("marked", 3, again=True),), CLIENT_TAKING: (3,), HEARD: heard}, event, {
            GOING: (), HEARD: heard * 2, COMING: (("heard", 3),),
        })
        for again in (False, True):
            self.check_event({GOING: (word("paired", 2, again=again),), CLIENT_TAKING: (1, 3)}, event, {
                GOING: (), HEARD: heard, COMING: (("taken", 2),), CLIENT_TAKING: (1, 2, 3),
            })
            self.check_event({GOING: (word("paired", 3, again=again),), CLIENT_TAKING: (1, 3)}, event, {
                GOING: (), COMING: (("taken", 3),),
            })

    def test_words_that_find_no_room(self):
        full = (light(2),) * 12
        many = (("b", 2),) * 100
        going = ("arrive", "ann", "going")
        for way in ("marked", "paired"):
            self.check_event({GOING: (word(way, 0),), COMING: full}, going, None)
            self.check_event({COMING: (word(way, 0),), GOING: full}, ("arrive", "ann", "coming"), None)
            self.check_event({GOING: (word(way, 0),), HEARD: many}, going, None)
        self.check_event({GOING: (light(),), HEARD: many}, going, None)
        self.check_event({GOING: (light(),), HEARD: many[1:]}, going, {GOING: (), HEARD: many[1:] + (("a", 1),)})
        self.check_event({GOING: (light(),), COMING: full}, going, {GOING: (), HEARD: (("a", 1),)})
        self.check_event({GOING: (word("paired", 0),), HEARD: many, CLIENT_TAKING: (0,)}, going, {
            GOING: (), COMING: (("taken", 0),),
        })

    def test_words_arrive_at_the_broker(self):
        event = ("arrive", "ann", "coming")
        other_waiting, other_wishes = (2, 1, 2, 2), (2, 1, 1)
        ways = ("light", "marked", "paired")
        for way, own, theirs in product(ways, (None,) + ways, (None,) + ways):
            number = None if way == "light" else 1
            before = {COMING: (word(way, number), light(9)), OWNED: (("bob", "light", "c", 0),)}
            after = {COMING: (light(9),), OWNED: (("bob", "light", "c", 0), ("ann", way, "a", 1))}
            due = ()
            for path, waiting, name, asked in (
                (WISHES, WAITING, "ann", own), (other_wishes, other_waiting, "bob", theirs),
            ):
                if asked is not None:
                    lesser = ways[min(ways.index(way), ways.index(asked))]
                    before[path] = (("+", asked), ("a", "light"), ("b", "paired"))
                    before[waiting] = (("light", "c", 3),)
                    after[waiting] = (("light", "c", 3), (lesser, "a", 1))
                    due += ((name, lesser, "a", 1),)
            after[DUE] = due
            if way == "marked":
                after[GOING] = (("heard", 1),)
            elif way == "paired":
                after[GOING] = (("taken", 1),)
                after[SESSION_TAKING] = (1,)
            self.check_event(before, event, after)

    def test_known_words_arrive_at_the_broker(self):
        event = ("arrive", "ann", "coming")
        before = {COMING: (word("paired", 1),), SESSION_TAKING: (1, 2), WISHES: (("#", "paired"),)}
        self.check_event(before, event, {COMING: (), GOING: (("taken", 1),)})
        before[COMING] = (word("marked", 1),)
        self.check_event(before, event, {
            COMING: (), GOING: (("heard", 1),), OWNED: (("ann", "marked", "a", 1),),
            DUE: (("ann", "marked", "a", 1),), WAITING: (("marked", "a", 1),),
        })

    def test_broker_without_room(self):
        event = ("arrive", "ann", "coming")
        before = {COMING: (light(),), WISHES: (("#", "light"),)}
        told = ("bob", "light", "b", 2)
        self.check_event({**before, WAITING: (("light", "b", 2),) * 12}, event, None)
        self.check_event({**before, DUE: (told,) * 100}, event, None)
        self.check_event({**before, OWNED: (told,) * 100}, event, None)
        own = ("ann", "light", "a", 1)
        self.check_event({COMING: (light(),), OWNED: (told,) * 100}, event, None)
        waiting = (("light", "b", 2),) * 11
        self.check_event({**before, OWNED: (told,) * 99, DUE: (told,) * 99, WAITING: waiting}, event, {
            COMING: (), OWNED: (told,) * 99 + (own,), DUE: (told,) * 99 + (own,),
            WAITING: waiting + (("light", "a", 1),),
        })
        given = ("give",) + own
        self.check_event({GIVEN: (told,) * 100}, given, None)
        self.check_event({GIVEN: (told,) * 99}, given, {GIVEN: (told,) * 99 + (own,), COMING: (light(),)})
        two = {**before, (2, 1, 1): (("#", "light"),), DUE: (told,) * 99}
        self.check_event(two, event, None)
        self.check_event({COMING: (light(),), DUE: (told,) * 100, WAITING: (("light", "b", 2),) * 12}, event, {
            COMING: (), OWNED: (("ann", "light", "a", 1),),
        })

    def check_answer(self, side, before_book, frame, after_book, gone, line=()):
        """An answer arrives at a hand that gives to the side; what goes on the line then."""
        book, lead, back = (CLIENT_BOOK, COMING, GOING) if side == "coming" else (SESSION_BOOK, GOING, COMING)
        event = ("arrive", "ann", "going" if side == "coming" else "coming")
        self.check_event({book: before_book, back: (frame, ("heard", 3)), lead: line}, event, {
            book: after_book, back: (("heard", 3),), lead: line + gone,
        })

    def test_answers(self):
        marked, sent = (0, "marked", "sent", "a", 1), (1, "paired", "sent", "a", 1)
        let = (1, "paired", "let", "a", 1)
        for side in ("coming", "going"):
            self.check_answer(side, (marked, sent), ("heard", 0), (sent,), ())
            self.check_answer(side, (marked, sent), ("heard", 1), (marked, sent), ())
            self.check_answer(side, (marked, sent), ("heard", 2), (marked, sent), ())
            self.check_answer(side, (marked, let), ("done", 1), (marked,), ())
            self.check_answer(side, (marked, sent), ("done", 1), (marked, sent), ())
            self.check_answer(side, (marked, let), ("done", 0), (marked, let), ())
            self.check_answer(side, (marked, let), ("done", 2), (marked, let), ())
            for entry in (sent, let):
                self.check_answer(side, (marked, entry), ("taken", 1), (marked, let), (("let", 1),))
            self.check_answer(side, (marked, sent), ("taken", 0), (marked, sent), (("let", 0),))
            self.check_answer(side, (marked, sent), ("taken", 3), (marked, sent), (("let", 3),))
            self.check_answer(side, (), ("taken", 3), (), (("let", 3),), (light(), ("taken", 3), word("marked", 2)))

    def test_answers_behind_words(self):
        sent, let = (1, "paired", "sent", "a", 1), (1, "paired", "let", "a", 1)
        for book, lead, back, event in (
            (CLIENT_BOOK, COMING, GOING, ("arrive", "ann", "going")),
            (SESSION_BOOK, GOING, COMING, ("arrive", "ann", "coming")),
        ):
            for way, again in product(("marked", "paired"), (False, True)):
                line = (light(), word(way, 1, "b", 2, again))
                before = {book: (sent,), back: (("taken", 1), word("paired", 1, "c", 3)), lead: line}
                behind = {back: (word("paired", 1, "c", 3),)}
                for ahead in (False, True):
                    self.check_sort(ahead, True, before, event, behind)
                    self.check_sort(ahead, False, before, event, {
                        **behind, book: (let,), lead: line + (("let", 1),),
                    })

    def test_lets(self):
        for taking, lead, back, event in (
            (CLIENT_TAKING, COMING, GOING, ("arrive", "ann", "going")),
            (SESSION_TAKING, GOING, COMING, ("arrive", "ann", "coming")),
        ):
            for held, left in (((0, 1, 2), (0, 2)), ((1,), ()), ((0, 2), (0, 2)), ((), ())):
                self.check_event({taking: held, back: (("let", 1), light()), lead: (("let", 0),)}, event, {
                    taking: left, back: (light(),), lead: (("let", 0), ("done", 1)),
                })
            self.check_event({taking: (1,), back: (("let", 1),), lead: (light(),) * 12}, event, None)
            self.check_event({back: (("taken", 1),), lead: (light(),) * 12}, event, None)
            self.check_event({back: (("heard", 1),), lead: (light(),) * 12}, event, {back: ()})
            self.check_event({back: (("done", 1),), lead: (light(),) * 12}, event, {back: ()})

    def test_nothing_arrives(self):
        for side in ("coming", "going"):
            self.check_event({}, ("arrive", "ann", side), None)
            self.check_event({}, ("arrive", "cid", side), None)
        self.check_event({COMING: (light(),)}, ("arrive", "ann", "going"), None)
        self.check_event({COMING: (light(),)}, ("arrive", "bob", "coming"), None)

    def test_harm_on_lines(self):
        one, two, three = word("paired", 0), ("let", 2), word("marked", 1, again=True)
        for path, side in ((COMING, "coming"), (GOING, "going")):
            for event, frames in (
                (("lose", "ann", side, 0), (two, three)), (("lose", "ann", side, 2), (one, two)),
                (("lose", "ann", side, 3), None), (("double", "ann", side, 0), (one, one, two, three)),
                (("double", "ann", side, 1), (one, two, two, three)),
                (("double", "ann", side, 2), (one, two, three, three)), (("double", "ann", side, 3), None),
                (("turn", "ann", side, 0), (two, one, three)), (("turn", "ann", side, 1), (one, three, two)),
                (("turn", "ann", side, 2), None), (("turn", "ann", side, 11), None),
                (("lose", "bob", side, 0), None), (("lose", "cid", side, 0), None),
            ):
                self.check_event({path: (one, two, three)}, event, None if frames is None else {path: frames})

    def test_harm_on_full_lines(self):
        for path, side in ((COMING, "coming"), (GOING, "going")):
            full = (("let", 2),) * 11 + (("let", 1),)
            self.check_event({path: full}, ("double", "ann", side, 11), None)
            self.check_event({path: full}, ("turn", "ann", side, 11), None)
            self.check_event({path: full}, ("turn", "ann", side, 10), {
                path: full[:10] + (("let", 1), ("let", 2)),
            })
            self.check_event({path: full}, ("lose", "ann", side, 11), {path: full[:11]})
            self.check_event({path: full[1:]}, ("double", "ann", side, 10), {path: full[1:] + full[11:]})

    def test_light_words_and_harm(self):
        for path, side in ((COMING, "coming"), (GOING, "going")):
            frames = (light(1), light(2))
            self.check_event({path: frames}, ("double", "ann", side, 0), None)
            self.check_event({path: frames}, ("lose", "ann", side, 0), {path: frames[1:]})
            self.check_event({path: frames}, ("turn", "ann", side, 0), {path: frames[::-1]})

    def test_again(self):
        book = ((0, "marked", "sent", "a", 1), (1, "paired", "sent", "b", 2), (3, "paired", "let", "c", 3))
        for path, lead, side in ((CLIENT_BOOK, COMING, "coming"), (SESSION_BOOK, GOING, "going")):
            for number, frame in (
                (0, ("word", "marked", 0, True, "a", 1)), (1, ("word", "paired", 1, True, "b", 2)), (3, ("let", 3)),
            ):
                event = ("again", "ann", side, number)
                self.check_event({path: book, lead: (light(),)}, event, {lead: (light(), frame)})
                self.check_event({path: book, lead: (light(),) * 12}, event, None)
            for number in (2, 4, 7):
                self.check_event({path: book}, ("again", "ann", side, number), None)
            self.check_event({path: book}, ("again", "bob", side, 0), None)
            self.check_event({path: book}, ("again", "cid", side, 0), None)
        self.check_event({CLIENT_BOOK: book}, ("again", "ann", "going", 0), None)


class Logs(unittest.TestCase):
    MEMORY = (((0, "marked", "sent", "a", 1),), (1,))
    LOG = (((2, "paired", "let", "b", 2),), (0, 2))

    def world(self, ahead):
        waiting, other = ((("light", "a", 1),),), ((("marked", "b", 2),) * 2,)
        world = fresh_world((3, ahead, True), ("ann", "bob"))
        for at in (0, 1):
            world = replaced(world, (1, at, 1), self.MEMORY)
            world = replaced(world, (1, at, 2), self.LOG)
            world = replaced(world, (2, at, 2), self.MEMORY + waiting)
            world = replaced(world, (2, at, 3), self.LOG + other)
            world = replaced(world, (3, at), (world[1][at][0], (light(), ("let", 2)), (("heard", 0),)))
        return world

    def test_write(self):
        world = self.world(False)
        for name, paths in (("ann", ((1, 0),)), ("bob", ((1, 1),)), ("", ((2, 0), (2, 1)))):
            behind = world
            for path in paths:
                memory = path + (path[0],)
                behind = replaced(behind, path + (path[0] + 1,), part_at(world, memory))
            self.assertEqual(happened(world, ("write", name)), behind)
            self.assertNotEqual(behind, world)

    def test_stop(self):
        world = self.world(False)
        for name, paths in (("ann", ((1, 0),)), ("bob", ((1, 1),)), ("", ((2, 0), (2, 1)))):
            behind = world
            for path in paths:
                behind = replaced(behind, path + (path[0],), part_at(world, path + (path[0] + 1,)))
                behind = replaced(behind, (3, path[1]), (world[1][path[1]][0], (), ()))
            self.assertEqual(happened(world, ("stop", name)), behind)

    def test_ahead(self):
        world = self.world(True)
        self.assertEqual(happened(world, ("write", "ann")), with_logs(world))
        self.assertEqual(happened(world, ("write", "")), with_logs(world))
        self.assertEqual(happened(world, ("lose", "bob", "coming", 0))[1:3], with_logs(world)[1:3])
        stopped = happened(world, ("stop", "bob"))
        self.assertEqual(stopped[1][1], ("bob", self.LOG, self.LOG, ()))
        self.assertEqual(stopped[1][0], ("ann", self.MEMORY, self.MEMORY, ()))
        self.assertEqual(stopped[3], (world[3][0], ("bob", (), ())))

    def test_stop_ahead_changes_lines_only(self):
        world = with_logs(self.world(True))
        self.assertEqual(happened(world, ("stop", "ann")), replaced(world, (3, 0), ("ann", (), ())))
        behind = replaced(world, (3,), (("ann", (), ()), ("bob", (), ())))
        self.assertEqual(happened(world, ("stop", "")), behind)
        self.assertEqual(happened(behind, ("stop", "")), behind)

    def test_no_such_client(self):
        for ahead in (False, True):
            for event in (("write", "cid"), ("stop", "cid")):
                self.assertIs(can_happen(self.world(ahead), event), False)
                with self.assertRaises(CannotHappen):
                    happened(self.world(ahead), event)


class BesideModel(unittest.TestCase):
    """Rows of events, beside a second telling of the document."""

    def test_rows(self):
        for seed in range(120):
            dice = random.Random(seed)
            self.check_row(dice, dice.choice(MANNERS), NAMES[:dice.randrange(1, 4)], dice.choice((CALM, HARSH)))

    def check_row(self, dice, manner, names, weights):
        model, world = Model(manner, names), fresh_world(manner, names)
        for _ in range(80):
            event = some_event(dice, model, weights)
            try:
                behind = model.behind(event)
            except Impossible:
                self.assertIs(can_happen(world, event), False)
                continue
            model, world = behind, happened(world, event)
            self.assertEqual(world, model.world(), event)
        self.assertTrue(is_world(world))
        self.assertEqual(faults_of(world), model.faults())
        self.assertEqual(is_at_rest(world), model.is_at_rest())

    def test_events_that_can(self):
        for seed in range(16):
            dice = random.Random(seed)
            manner = MANNERS[seed]
            events, model = some_run(dice, manner, 60, HARSH, NAMES[:2])
            world = happened_all(fresh_world(manner, NAMES[:2]), events)
            self.assertEqual(world, model.world())
            possible = []
            for event in all_named_events(NAMES[:2]):
                try:
                    model.behind(event)
                    possible.append(event)
                except Impossible:
                    self.assertIs(can_happen(world, event), False)
            self.assertEqual(events_that_can(world), sorted(possible))


class ManyEvents(unittest.TestCase):
    def test_happened_all(self):
        world = fresh_world((2, True, True), ("ann",))
        self.assertEqual(happened_all(world, ()), world)
        self.assertEqual(happened_all(world, (("write", ""),) * 200), world)
        events = (("give", "ann", "paired", "a", 1), ("arrive", "ann", "coming"), ("arrive", "ann", "going"))
        by_one = world
        for event in events:
            by_one = happened(by_one, event)
        self.assertEqual(happened_all(world, events), by_one)
        with self.assertRaises(CannotHappen):
            happened_all(world, events + (("pass", "ann"),))

    def test_new_lists(self):
        world = fresh_world((2, True, True), ("ann",))
        one = events_that_can(world)
        self.assertEqual(one, [("stop", ""), ("stop", "ann"), ("write", ""), ("write", "ann")])
        one.clear()
        self.assertEqual(len(events_that_can(world)), 4)

    def test_example_run(self):
        world = fresh_world((1, True, True), ("ann",))
        events = (
            ("wish", "ann", "#", "paired"), ("give", "ann", "paired", "a", 7), ("arrive", "ann", "coming"),
            ("arrive", "ann", "going"), ("arrive", "ann", "coming"), ("arrive", "ann", "going"), ("pass", "ann"),
            ("arrive", "ann", "going"), ("arrive", "ann", "coming"), ("arrive", "ann", "going"),
            ("arrive", "ann", "coming"),
        )
        behind = happened_all(world, events)
        self.assertTrue(is_at_rest(behind))
        self.assertEqual(faults_of(behind), [])
        self.assertEqual(behind[1][0][3], (("a", 7),))


class Arguments(ArgumentChecks, unittest.TestCase):
    def test_wrong_arguments(self):
        worlds = (RICH[:6], list(RICH), replaced(RICH, (0, 0), 2))
        events = (("pass", ""), ("pass",), ["pass", "ann"], ("lose", "ann", "coming", 12), ("give", "ann"))
        for function in (can_happen, happened):
            self.check_arguments(function, (RICH, ("pass", "ann")), (InvalidWorld, InvalidEvent), (worlds, events))
        self.check_arguments(
            happened_all, (RICH, (("write", ""),)), (InvalidWorld, InvalidEvents),
            (worlds, tuple((event,) for event in events) + (
                ("write", ""), [("write", "")], (("write", ""),) * 201, (("write", ""), None),
            )),
        )
        self.check_arguments(events_that_can, (RICH,), (InvalidWorld,), (worlds,))

    def test_wrong_events_ahead_of_impossible_ones(self):
        world = fresh_world((2, True, True), ("ann",))
        self.check_error(happened_all, (world, (("pass", "ann"), ("pass", ""))), InvalidEvents)
        self.check_error(happened_all, (world, (("pass", "ann"),) * 201), InvalidEvents)
        self.check_error(happened_all, (world, (("pass", "ann"),) * 200), CannotHappen)


if __name__ == "__main__":
    unittest.main()
