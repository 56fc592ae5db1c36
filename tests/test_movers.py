"""Points 20, 21 and 22: tasks, safe moves, plans, layers, and the judges of both."""

import random
import unittest
from itertools import product

from helpers import POINT, SQUARE, box
from traffic_helpers import Slow, moments, some_task

from roomyway import movers
from roomyway.errors import InvalidArgument, UnknownThing
from roomyway.movers import check_task, find_plan, is_safe, takes_layers, takes_plan
from roomyway.rooms import Room

LETTERS = "abcdefghijkl"


def hall():
    """A room with a wall across that has a door in it, and with three bodies."""
    room = Room(20, 10)
    room.build("wall", (box(8, 0, 9, 4), box(8, 7, 9, 10)))
    room.hang("door", (box(8, 4, 9, 7),))
    room.hang("gate", (((1, 9), (2, 9)),))
    room.add_body("box", (SQUARE,))
    room.add_body("dot", POINT_SHAPE)
    room.add_body("bar", (((0, 0), (0, 1)), ((0, 1), (1, 1))))
    return room


POINT_SHAPE = (POINT,)
TASK = {
    "stations": {"west": (3, 5), "near": (6, 5), "east": (12, 5), "south": (3, 2)},
    "lanes": (("west", "near"), ("east", "near"), ("west", "south")),
    "movers": (("box", "west", "east", 0, 6), ("dot", "south", "south", 0, 6)),
    "ticks": 6,
    "open": {"door": (2, 4)},
}


def changed(**parts):
    """The task with some parts changed."""
    return {**TASK, **parts}


def empty(width, height, **shapes):
    """A room without walls, with some bodies."""
    room = Room(width, height)
    for name, shape in shapes.items():
        room.add_body(name, shape)
    return room


def meeting(lanes, stations, *pairs, ticks=1):
    """A task in an empty room of two or three dots with the starts and goals."""
    bodies = [(name, *pair, 0, ticks) for name, pair in zip(("dot", "dat", "dit"), pairs)]
    return {"stations": stations, "lanes": lanes, "movers": tuple(bodies), "ticks": ticks, "open": {}}


class Tasks(unittest.TestCase):

    def refused(self, error, room=None, **parts):
        task = changed(**parts)
        before = repr(task)
        with self.subTest(parts=parts):
            with self.assertRaises(error) as caught:
                check_task(room or hall(), task)
            self.assertIs(type(caught.exception), error)
        self.assertEqual(repr(task), before)

    def taken(self, **parts):
        with self.subTest(parts=parts):
            self.assertIsNone(check_task(hall(), changed(**parts)))

    def test_right_tasks(self):
        self.taken()
        self.taken(open={})
        self.taken(open={"door": (), "gate": (0, 1, 2, 3, 4, 5)})
        self.taken(lanes=())
        self.taken(lanes=(("west", "near"), ("near", "west"), ("west", "near")))

    def test_the_bounds_are_in(self):
        stations = {name: (k, k) for k, name in enumerate(LETTERS[:8])}
        lanes = tuple(("a", name) for name in "bcdefgh") + (("b", "c"),) * 5
        self.taken(stations=stations, lanes=lanes, movers=(("box", "a", "h", 0, 6),))
        self.taken(stations={"a": (10000, -10000)}, lanes=(), movers=(("box", "a", "a", 6, 6),))
        self.taken(stations={"a" * 12: (0, 0)}, lanes=(), movers=(("box", "a" * 12, "a" * 12, 0, 0),))
        self.taken(movers=tuple((name, "west", "west", 3, 4) for name in ("box", "dot", "bar")))
        self.taken(ticks=12, movers=(("box", "west", "east", 12, 12),), open={"door": tuple(range(12))})
        self.taken(ticks=1, movers=(("box", "west", "east", 0, 1),), open={"door": (0,)})

    def test_stations(self):
        one = (("box", "a", "a", 0, 6),)
        self.refused(InvalidArgument, stations={}, lanes=(), movers=())
        self.refused(InvalidArgument, stations={name: (1, 1) for name in LETTERS[:9]}, lanes=(), movers=one)
        for name in ("", "A", "a b", "a1", "a" * 13, "\u00e4"):
            self.refused(InvalidArgument, stations={**TASK["stations"], name: (1, 1)})
            self.refused(InvalidArgument, stations={name: (1, 1)}, lanes=(), movers=(("box", name, name, 0, 6),))
        for corner in ((10001, 0), (0, -10001), (1,), (1, 2, 3), (), (1.5, 2), (True, 1), ((1, 1), (2, 1)), None):
            self.refused(InvalidArgument, stations={**TASK["stations"], "more": corner})

    def test_lanes(self):
        self.refused(InvalidArgument, lanes=(("west", "near"),) * 13)
        for lane in (("west", "north"), ("north", "west"), ("west", "west"), ("west", ""), ("West", "west")):
            self.refused(InvalidArgument, lanes=(lane,))
            self.refused(InvalidArgument, lanes=TASK["lanes"] + (lane,))

    def test_movers(self):
        self.refused(InvalidArgument, movers=())
        self.refused(InvalidArgument, movers=tuple((name, "west", "east", 0, 6) for name in "abcd"))
        self.refused(InvalidArgument, movers=TASK["movers"] + (("box", "west", "west", 0, 6),))
        self.refused(InvalidArgument, movers=(("dot", "west", "west", 0, 6), ("dot", "east", "west", 0, 6)))
        for start, goal in (("north", "west"), ("west", "north"), ("", "west"), ("west", "West")):
            self.refused(InvalidArgument, movers=(("box", start, goal, 0, 6),))
            self.refused(InvalidArgument, movers=TASK["movers"] + (("bar", start, goal, 0, 6),))

    def test_windows(self):
        for window in ((0, 7), (7, 7), (1, 0), (6, 5), (-1, 3), (-1, -1), (-2, -1), (0, 100)):
            self.refused(InvalidArgument, movers=(("box", "west", "east", *window),))
            self.refused(InvalidArgument, movers=(("dot", "west", "east", 0, 6), ("box", "west", "east", *window)))

    def test_ticks(self):
        for ticks in (0, 13, -1, 10 ** 30):
            self.refused(InvalidArgument, ticks=ticks, movers=(("box", "west", "west", 0, 0),), open={})

    def test_ticks_of_doors(self):
        for ticks in ((2, 1), (1, 1), (0, 2, 2, 3), (0, 3, 1), (-1,), (-1, 0), (6,), (0, 6), (5, 6), (100,)):
            self.refused(InvalidArgument, open={"door": ticks})
            self.refused(InvalidArgument, open={"gate": (0,), "door": ticks})
            self.refused(InvalidArgument, open={"door": ticks, "gate": (0,)})

    def test_unknown_bodies_and_doors(self):
        for name in ("bat", "wall", "door", "Box", "", "a b", "x" * 13):
            self.refused(UnknownThing, movers=((name, "west", "east", 0, 6),))
            self.refused(UnknownThing, movers=TASK["movers"] + ((name, "west", "east", 0, 6),))
        for name in ("wall", "box", "doors", "Door", "", "a b", "x" * 13):
            self.refused(UnknownThing, open={name: (0,)})
            self.refused(UnknownThing, open={"door": (0,), name: ()})

    def test_they_come_after_all_other_errors(self):
        unknown = {"movers": (("bat", "west", "east", 0, 6),), "open": {"wall": (0,)}}
        self.refused(UnknownThing, **unknown)
        self.refused(InvalidArgument, **{**unknown, "ticks": 13})
        self.refused(InvalidArgument, **{**unknown, "lanes": (("west", "west"),)})
        self.refused(InvalidArgument, **{**unknown, "stations": {**TASK["stations"], "X": (0, 0)}})
        self.refused(InvalidArgument, **{**unknown, "open": {"wall": (6,)}})
        self.refused(InvalidArgument, **{**unknown, "movers": (("bat", "west", "east", 0, 7),)})
        self.refused(InvalidArgument, **{**unknown, "movers": (("bat", "west", "up", 0, 6),)})
        self.refused(InvalidArgument, **{**unknown, "movers": (("bat", "west", "east", 0, 6),) * 2})

    def test_a_door_may_be_open_in_the_room(self):
        room = hall()
        room.open_door("door")
        self.assertIsNone(check_task(room, TASK))

    def test_each_is_defined_in_its_file(self):
        for name in ("check_task", "is_safe", "find_plan", "takes_plan", "takes_layers"):
            self.assertEqual(getattr(movers, name).__module__, "roomyway.movers")


class Moves(unittest.TestCase):

    def check(self, expected, room, task, tick, first, second):
        with self.subTest(tick=tick, first=first, second=second):
            check_task(room, task)
            self.assertIs(is_safe(room, task, tick, first, second), expected)
            self.assertIs(Slow(room, task).is_safe(tick, first, second), expected)

    def test_lanes_lead_in_either_direction(self):
        room = hall()
        self.check(True, room, TASK, 0, ("west", "south"), ("near", "south"))
        self.check(True, room, TASK, 0, ("near", "south"), ("west", "south"))
        self.check(True, room, TASK, 0, ("near", "south"), ("near", "south"))

    def test_where_no_lane_leads(self):
        room = hall()
        self.check(False, room, TASK, 2, ("west", "south"), ("east", "south"))
        self.check(False, room, TASK, 0, ("near", "south"), ("south", "south"))
        self.check(False, room, changed(lanes=()), 0, ("west", "south"), ("near", "south"))
        self.check(True, room, changed(lanes=()), 0, ("west", "south"), ("west", "south"))

    def test_what_is_no_state(self):
        room = hall()
        good = ("west", "south")
        for bad in (
            (), ("west",), good + ("near",), good * 2, ("west", "north"), ("north", "south"), ("west", ""),
            ("West", "south"), ("wests", "south"),
        ):
            for first, second in ((bad, good), (good, bad), (bad, bad)):
                self.check(False, room, TASK, 0, first, second)

    def test_a_door_is_open_from_its_ticks_to_the_next_ones(self):
        room = hall()
        for tick in range(6):
            for first, second in (("near", "east"), ("east", "near")):
                self.check(tick in (2, 4), room, TASK, tick, (first, "south"), (second, "south"))

    def test_a_door_that_the_task_names_does_not_keep_as_it_is_in_the_room(self):
        room = hall()
        room.open_door("door")
        for tick in range(6):
            self.check(tick in (2, 4), room, TASK, tick, ("near", "south"), ("east", "south"))
            self.check(False, room, changed(open={"door": ()}), tick, ("near", "south"), ("east", "south"))

    def test_other_doors_are_as_in_the_room(self):
        room = hall()
        move = ("near", "south"), ("east", "south")
        for opening in ({}, {"gate": (0,)}):
            self.check(False, room, changed(open=opening), 0, *move)
            self.check(False, room, changed(open=opening), 3, *move)
        room.open_door("door")
        for opening in ({}, {"gate": (0,)}):
            self.check(True, room, changed(open=opening), 0, *move)
            self.check(True, room, changed(open=opening), 3, *move)
        # Asking does not change the doors of the room.
        self.assertIs(room.doors()["door"][1], False)
        self.assertIs(room.doors()["gate"][1], True)

    def test_two_doors(self):
        room = hall()
        room.hang("hatch", (((7, 0), (7, 10)),))
        move = ("near", "south"), ("east", "south")
        task = changed(open={"door": (1, 2), "hatch": (2, 3)})
        for tick in range(6):
            self.check(tick == 2, room, task, tick, *move)

    def test_staying_is_asked_too(self):
        room = empty(20, 10, box=(SQUARE,))
        task = {
            "stations": {"in": (5, 5), "rim": (0, 5), "top": (5, 9), "out": (-3, 5)}, "lanes": (("in", "rim"),),
            "movers": (("box", "in", "in", 0, 1),), "ticks": 1, "open": {},
        }
        for name in task["stations"]:
            self.check(name == "in", room, task, 0, (name,), (name,))
        self.check(False, room, task, 0, ("in",), ("rim",))

    def test_touching_on_the_way(self):
        room = empty(20, 10, dot=POINT_SHAPE)
        room.build("wall", (((5, 5),),))
        stations = {"a": (2, 5), "b": (8, 5), "c": (8, 6), "d": (5, 4)}
        lanes = (("a", "b"), ("a", "c"), ("d", "c"), ("d", "a"))
        task = {"stations": stations, "lanes": lanes, "movers": (("dot", "a", "b", 0, 1),), "ticks": 1, "open": {}}
        self.check(False, room, task, 0, ("a",), ("b",))
        self.check(True, room, task, 0, ("a",), ("c",))
        self.check(True, room, task, 0, ("d",), ("c",))
        self.check(True, room, task, 0, ("d",), ("a",))

    def test_exchanging_on_one_lane(self):
        room = empty(20, 10, dot=POINT_SHAPE, dat=POINT_SHAPE)
        task = meeting((("a", "b"),), {"a": (2, 5), "b": (8, 5)}, ("a", "b"), ("b", "a"))
        self.check(False, room, task, 0, ("a", "b"), ("b", "a"))
        self.check(True, room, task, 0, ("a", "b"), ("a", "b"))
        self.check(False, room, task, 0, ("a", "a"), ("a", "a"))
        self.check(False, room, task, 0, ("a", "a"), ("b", "b"))
        self.check(False, room, task, 0, ("a", "b"), ("b", "b"))
        self.check(False, room, task, 0, ("a", "a"), ("a", "b"))

    def test_crossing_at_one_moment(self):
        room = empty(20, 20, dot=POINT_SHAPE, dat=POINT_SHAPE)
        stations = {"w": (2, 10), "e": (18, 10), "s": (10, 2), "n": (10, 18), "f": (10, 17)}
        task = meeting((("w", "e"), ("s", "n"), ("s", "f")), stations, ("w", "e"), ("s", "n"))
        self.check(False, room, task, 0, ("w", "s"), ("e", "n"))
        # Half a moment earlier or later they pass each other.
        self.check(True, room, task, 0, ("w", "s"), ("e", "f"))
        self.check(True, room, task, 0, ("w", "s"), ("e", "s"))
        self.check(True, room, task, 0, ("w", "n"), ("w", "s"))

    def test_bodies_that_pass_one_another(self):
        stations = {"a": (2, 5), "b": (12, 5), "c": (2, 7), "d": (12, 7)}
        lanes = (("a", "b"), ("c", "d"))
        for height, expected in ((1, True), (2, False), (3, False)):
            room = empty(20, 20, dot=(box(0, 0, 1, height),), dat=POINT_SHAPE)
            task = meeting(lanes, stations, ("a", "b"), ("d", "c"))
            self.check(expected, room, task, 0, ("a", "d"), ("b", "c"))
            # Side by side they never come to the same height.
            self.check(True, room, task, 0, ("a", "d"), ("a", "d"))

    def test_following_one_another(self):
        room = empty(20, 10, dot=(SQUARE,), dat=(SQUARE,))
        stations = {"a": (1, 5), "b": (4, 5), "c": (7, 5), "d": (8, 5), "e": (9, 5)}
        task = meeting((("a", "b"), ("b", "c"), ("c", "d"), ("d", "e")), stations, ("a", "b"), ("b", "c"))
        self.check(True, room, task, 0, ("a", "b"), ("b", "c"))
        self.check(True, room, task, 0, ("b", "a"), ("c", "b"))
        # A square one further on touches.
        self.check(False, room, task, 0, ("c", "d"), ("c", "d"))
        self.check(False, room, task, 0, ("b", "c"), ("c", "d"))
        self.check(True, room, task, 0, ("c", "e"), ("c", "e"))
        self.check(False, room, task, 0, ("c", "e"), ("d", "e"))

    def test_whose_pieces_are_turned_over(self):
        # The first body reaches to the right and the second one up, so the order of both matters.
        room = empty(20, 20, dot=(((0, 0), (4, 0)),), dat=(((0, -3), (0, 0)),))
        stations = {"a": (5, 5), "b": (8, 7), "c": (2, 7), "d": (8, 9)}
        for names, expected in ((("a", "b"), False), (("a", "c"), True), (("a", "d"), True), (("b", "a"), True)):
            self.check(expected, room, meeting((), stations, *[(name, name) for name in names]), 0, names, names)

    def test_each_two_of_three(self):
        room = empty(20, 10, dot=POINT_SHAPE, dat=POINT_SHAPE, dit=POINT_SHAPE)
        stations = {"a": (2, 5), "b": (4, 5), "c": (6, 5), "d": (8, 5)}
        task = meeting((), stations, ("a", "a"), ("b", "b"), ("c", "c"))
        for state in product("abc", repeat=3):
            self.check(len(set(state)) == 3, room, task, 0, state, state)

    def test_pieces_of_both_bodies(self):
        room = empty(20, 10, dot=(((0, 0),), ((3, 0),)), dat=(((0, 0),), ((0, 2),), ((5, 2),)))
        stations = {"a": (4, 4), "b": (7, 4), "c": (4, 2), "d": (2, 2), "e": (5, 5)}
        task = meeting((), stations, ("a", "a"), ("b", "b"))
        for pair, expected in (("ab", False), ("ac", False), ("ad", False), ("ae", True), ("aa", False)):
            self.check(expected, room, task, 0, tuple(pair), tuple(pair))

    def test_a_body_that_does_not_move_is_no_matter(self):
        room = empty(20, 10, dot=POINT_SHAPE, dat=POINT_SHAPE, dit=(box(-200, -200, 200, 200),))
        task = meeting((), {"a": (2, 5), "b": (4, 5)}, ("a", "a"), ("b", "b"))
        self.check(True, room, task, 0, ("a", "b"), ("a", "b"))

    def test_the_words_beyond_the_frame(self):
        # Point 21 asks for the regions alone, and none of them reaches that far.
        room = empty(20, 10, dot=POINT_SHAPE)
        task = meeting((("a", "b"), ("a", "c")), {"a": (9000, 9000), "b": (9000, -9000), "c": (5, 5)}, ("a", "a"))
        self.check(True, room, task, 0, ("a",), ("a",))
        self.check(True, room, task, 0, ("a",), ("b",))
        self.check(False, room, task, 0, ("a",), ("c",))

    def test_by_chance(self):
        chance = random.Random(21)
        told = {True: 0, False: 0}
        for _ in range(150):
            room, task = some_task(chance)
            check_task(room, task)
            slow = Slow(room, task)
            states = list(product(task["stations"], repeat=len(task["movers"])))
            for _ in range(12):
                tick = chance.randrange(task["ticks"])
                first, second = chance.choice(states), chance.choice(states)
                if chance.random() < 0.6:
                    second = tuple(chance.choice(slow_steps(task, name)) for name in first)
                expected = slow.is_safe(tick, first, second)
                told[expected] += 1
                self.assertIs(is_safe(room, task, tick, first, second), expected, (task, tick, first, second))
                if expected:
                    self.assertFalse(any(slow.touch_at(tick, first, second, share) for share in moments()))
        self.assertGreater(min(told.values()), 100)


def slow_steps(task, name):
    """The stations that can be come to from a station in one move."""
    return [name] + [there for there in task["stations"] if (name, there) in task["lanes"] + tuple(
        lane[::-1] for lane in task["lanes"])]


class Planning(unittest.TestCase):

    def check(self, room, task, is_there):
        before = repr(task), room.walls(), room.doors(), room.bodies()
        check_task(room, task)
        answer = find_plan(room, task)
        slow = Slow(room, task)
        self.assertIs(type(answer), tuple)
        self.assertEqual(len(answer), 2)
        self.assertEqual(answer[0], "plan" if is_there else "none")
        if is_there:
            self.assertIs(type(answer[1]), tuple)
            self.assertTrue(all(type(state) is tuple for state in answer[1]))
            self.assertTrue(slow.is_plan(answer[1]), answer)
            self.assertIs(takes_plan(room, task, answer[1]), True)
        else:
            self.assertEqual(answer[1], slow.layers())
            self.assertEqual(answer[1][-1], ())
            self.assertIs(takes_layers(room, task, answer[1]), True)
        self.assertEqual(find_plan(room, task), answer)
        self.assertEqual((repr(task), room.walls(), room.doors(), room.bodies()), before)
        return answer[1]

    def test_through_a_door(self):
        plan = self.check(hall(), TASK, True)
        crossed = [tick for tick in range(6) if (plan[tick][0], plan[tick + 1][0]) == ("near", "east")]
        self.assertIn(crossed[0], (2, 4))

    def test_a_door_that_opens_too_early(self):
        layers = self.check(hall(), changed(open={"door": (0,)}), False)
        self.assertEqual(layers[0], (("west", "south"),))
        self.assertEqual(layers[1], (("near", "south"), ("near", "west"), ("west", "south")))
        self.assertEqual(layers[6], ())

    def test_all_layers_in_full(self):
        room = empty(20, 10, dot=POINT_SHAPE)
        stations = {"b": (2, 5), "a": (4, 5), "c": (6, 5), "d": (9, 5)}
        task = meeting((("b", "a"), ("c", "a"), ("c", "d")), stations, ("b", "d"), ticks=2)
        self.assertEqual(self.check(room, task, False), ((("b",),), (("a",), ("b",)), ()))
        plan = self.check(room, {**task, "ticks": 3, "movers": (("dot", "b", "d", 0, 3),)}, True)
        self.assertEqual(plan, (("b",), ("a",), ("c",), ("d",)))

    def test_starts_that_are_not_safe(self):
        room = empty(20, 10, dot=POINT_SHAPE, dat=POINT_SHAPE)
        stations = {"a": (2, 5), "b": (0, 5), "c": (2, 5)}
        for starts in (("a", "b"), ("a", "a"), ("a", "c")):
            task = meeting((("a", "b"), ("b", "c")), stations, *[(name, name) for name in starts], ticks=3)
            self.assertEqual(self.check(room, task, False), ((), (), (), ()))

    def test_starts_behind_a_door_that_opens_at_once(self):
        room = hall()
        stations = {"in": (8, 5), "west": (3, 5)}
        task = changed(
            stations=stations, lanes=(("in", "west"),), movers=(("dot", "in", "west", 0, 2),), ticks=2,
        )
        self.assertEqual(self.check(room, {**task, "open": {"door": (1,)}}, False), ((), (), ()))
        self.assertEqual(self.check(room, {**task, "open": {"door": (0,)}}, True), (("in",), ("west",), ("west",)))
        room.open_door("door")
        self.check(room, {**task, "open": {}}, True)
        self.check(room, {**task, "open": {"door": (0, 1)}, "movers": (("dot", "in", "in", 0, 2),)}, True)
        layers = self.check(room, {**task, "open": {"door": (0,)}, "movers": (("dot", "in", "in", 0, 2),)}, False)
        self.assertEqual(layers, ((("in",),), (("in",), ("west",)), ()))

    def test_windows_at_tick_0(self):
        room = empty(20, 10, dot=POINT_SHAPE)
        stations = {"a": (2, 5), "b": (4, 5)}
        task = meeting((("a", "b"),), stations, ("a", "b"), ticks=2)
        self.assertEqual(self.check(room, {**task, "movers": (("dot", "a", "b", 0, 0),)}, False), ((), (), ()))
        self.assertEqual(self.check(room, {**task, "movers": (("dot", "a", "a", 0, 0),)}, True), (("a",),) * 3)

    def test_windows(self):
        room = empty(20, 10, dot=POINT_SHAPE)
        stations = {"a": (2, 5), "b": (4, 5), "c": (6, 5)}
        task = meeting((("a", "b"), ("c", "b")), stations, ("a", "c"), ticks=5)
        for earliest, latest in product(range(6), repeat=2):
            if earliest <= latest:
                mover = ("dot", "a", "c", earliest, latest)
                plan = self.check(room, {**task, "movers": (mover,)}, latest - earliest >= 2)
                if latest - earliest >= 2:
                    names = [name for name, in plan]
                    self.assertEqual(names[:earliest + 1], ["a"] * (earliest + 1))
                    self.assertEqual(names[latest:], ["c"] * (6 - latest))

    def test_equal_start_and_goal_and_a_window_of_one_tick(self):
        room = empty(20, 10, dot=POINT_SHAPE)
        task = meeting((("a", "b"),), {"a": (2, 5), "b": (4, 5)}, ("a", "a"), ticks=4)
        for tick in range(5):
            self.assertEqual(self.check(room, {**task, "movers": (("dot", "a", "a", tick, tick),)}, True), (("a",),) * 5)
            self.check(room, {**task, "movers": (("dot", "a", "b", tick, tick),)}, False)

    def test_exchanging_places(self):
        room = empty(20, 10, dot=POINT_SHAPE, dat=POINT_SHAPE)
        stations = {"a": (2, 5), "b": (4, 5), "c": (6, 5), "up": (4, 8)}
        line = (("a", "b"), ("b", "c"))
        ends = ("a", "c"), ("c", "a")
        self.check(room, meeting(line, stations, *ends, ticks=8), False)
        side = line + (("b", "up"),)
        self.check(room, meeting(side, stations, *ends, ticks=4), True)
        self.check(room, meeting(side, stations, *ends, ticks=3), False)

    def test_turning_in_a_circle(self):
        room = empty(20, 20, dot=POINT_SHAPE, dat=POINT_SHAPE, dit=POINT_SHAPE)
        stations = {"a": (2, 2), "b": (12, 2), "c": (7, 12)}
        circle = (("a", "b"), ("b", "c"), ("c", "a"))
        plan = self.check(room, meeting(circle, stations, ("a", "b"), ("b", "c"), ("c", "a")), True)
        self.assertEqual(plan, (("a", "b", "c"), ("b", "c", "a")))
        self.check(room, meeting(circle, stations, ("a", "b"), ("b", "a"), ("c", "c")), False)

    def test_the_largest_task(self):
        room = Room(20, 20)
        for name in ("dot", "dat", "dit"):
            room.add_body(name, (SQUARE, box(1, 0, 2, 1), ((0, 2),)))
        corners = [(1, 1), (6, 1), (11, 1), (16, 1), (1, 8), (6, 8), (11, 8), (16, 8)]
        stations = dict(zip("abcdefgh", corners))
        lanes = (("a", "b"), ("b", "c"), ("c", "d"), ("e", "f"), ("f", "g"), ("g", "h"), ("a", "e"), ("b", "f"),
                 ("c", "g"), ("d", "h"), ("a", "f"), ("c", "h"))
        task = meeting(lanes, stations, ("a", "h"), ("h", "a"), ("d", "e"), ticks=12)
        check_task(room, task)
        kind, plan = find_plan(room, task)
        self.assertEqual(kind, "plan")
        self.assertTrue(Slow(room, task).is_plan(plan))
        self.assertIs(takes_plan(room, task, plan), True)
        room.build("wall", (((0, 5), (20, 5)),))
        kind, layers = find_plan(room, task)
        self.assertEqual((kind, layers[-1], len(layers)), ("none", (), 13))
        self.assertIs(takes_layers(room, task, layers), True)

    def test_by_chance(self):
        chance = random.Random(22)
        told = {"plan": 0, "none": 0}
        for _ in range(600):
            room, task = some_task(chance)
            layers = Slow(room, task).layers()
            self.check(room, task, bool(layers[-1]))
            told["plan" if layers[-1] else "none"] += bool(layers[0])
        self.assertGreater(min(told.values()), 20)


class JudgeOfPlans(unittest.TestCase):

    def setUp(self):
        self.room = hall()
        self.plan = (("west", "south"), ("near", "south"), ("near", "south"), ("east", "south"), ("east", "south"),
                     ("east", "south"), ("east", "south"))

    def check(self, plan, expected, room=None, **parts):
        room, task = room or self.room, changed(**parts)
        with self.subTest(plan=plan):
            self.assertIs(takes_plan(room, task, plan), expected)
            self.assertEqual(Slow(room, task).is_plan(plan), expected)

    def test_plans(self):
        self.check(self.plan, True)
        self.check(self.plan[:1] + self.plan[:3] + (("near", "south"),) + self.plan[-2:], True)

    def test_too_short_or_too_long(self):
        self.check((), False)
        self.check(self.plan[:-1], False)
        self.check(self.plan[1:], False)
        self.check(self.plan + self.plan[-1:], False)
        self.check(self.plan[:1] + self.plan, False)

    def test_a_state_changed(self):
        told = {True: 0, False: 0}
        for k in range(7):
            for state in product(TASK["stations"], repeat=2):
                plan = self.plan[:k] + (state,) + self.plan[k + 1:]
                expected = Slow(self.room, TASK).is_plan(plan)
                told[expected] += 1
                self.check(plan, expected)
        self.assertGreater(min(told.values()), 5)

    def test_what_is_no_state(self):
        for bad in ((), ("west",), ("west", "south", "near"), ("east", "north"), ("up", "south"), ("east", "")):
            for k in range(7):
                self.check(self.plan[:k] + (bad,) + self.plan[k + 1:], False)
        self.check(((),) * 7, False)
        self.check(tuple((("west",), ("south",)) for _ in range(7)), False)

    def test_layers_are_no_plan(self):
        layers = tuple((state,) for state in self.plan)
        self.assertIs(takes_plan(self.room, TASK, layers), False)
        self.assertIs(takes_plan(self.room, TASK, layers[:-1] + ((),)), False)

    def test_windows(self):
        for earliest, latest, expected in ((0, 6, True), (0, 3, True), (0, 2, False), (1, 6, False), (0, 4, True)):
            self.check(self.plan, expected, movers=(("box", "west", "east", earliest, latest), TASK["movers"][1]))
        self.check(self.plan, False, movers=(("box", "west", "near", 0, 6), TASK["movers"][1]))
        self.check(self.plan, False, movers=(("box", "near", "east", 0, 6), TASK["movers"][1]))
        self.check(self.plan[1:] + self.plan[-1:], False)

    def test_doors(self):
        self.check(self.plan, False, open={"door": (0, 1, 3, 4, 5)})
        self.check(self.plan, True, open={"door": (2,)})
        self.check(self.plan, False, open={})
        room = hall()
        room.open_door("door")
        self.check(self.plan, True, room, open={})

    def test_starts_that_are_not_safe(self):
        stay = (("west", "west"),) * 7
        self.check(stay, False, movers=(("box", "west", "west", 0, 6), ("dot", "west", "west", 0, 6)))
        self.check((("west", "south"),) * 7, True,
                   movers=(("box", "west", "west", 0, 6), ("dot", "south", "south", 0, 6)))

    def test_starts_where_they_cannot_stay_even_if_they_leave_at_once(self):
        room = empty(20, 10, dot=POINT_SHAPE, dat=POINT_SHAPE)
        task = meeting((("a", "b"),), {"a": (2, 5), "b": (4, 5), "c": (0, 5)}, ("a", "b"), ("c", "c"))
        self.assertIs(takes_plan(room, task, (("a", "c"), ("b", "c"))), False)

    def test_by_chance(self):
        chance = random.Random(220)
        told = {True: 0, False: 0}
        while min(told.values()) < 25:
            room, task = some_task(chance)
            kind, plan = find_plan(room, task)
            if kind == "plan":
                k = chance.randrange(len(plan))
                state = tuple(chance.choice(list(task["stations"])) for _ in plan[k])
                plan = chance.choice((plan, plan[:k] + (state,) + plan[k + 1:]))
                expected = Slow(room, task).is_plan(plan)
                told[expected] += 1
                self.assertIs(takes_plan(room, task, plan), expected)


class JudgeOfLayers(unittest.TestCase):

    def setUp(self):
        self.room = empty(20, 10, dot=POINT_SHAPE, dat=POINT_SHAPE)
        stations = {"a": (2, 5), "b": (4, 5), "c": (6, 5), "d": (6, 8)}
        self.task = meeting((("a", "b"), ("b", "c")), stations, ("a", "c"), ("c", "a"), ticks=3)
        self.layers = find_plan(self.room, self.task)[1]

    def check(self, layers, expected):
        with self.subTest(layers=layers):
            self.assertIs(takes_layers(self.room, self.task, layers), expected)
            self.assertEqual(Slow(self.room, self.task).are_layers(layers), expected)

    def test_layers(self):
        self.assertEqual(self.layers, (
            (("a", "c"),), (("a", "b"), ("a", "c"), ("b", "c")), (("a", "b"), ("a", "c"), ("b", "c")), (),
        ))
        self.check(self.layers, True)

    def test_too_short_or_too_long(self):
        self.check((), False)
        self.check(((),), False)
        self.check(self.layers[:-1], False)
        self.check(self.layers[1:], False)
        self.check(self.layers + ((),), False)
        self.check(self.layers[:1] + self.layers, False)
        self.check(self.layers[:2] + self.layers[3:], False)

    def test_a_state_left_out(self):
        for k, layer in enumerate(self.layers):
            for j in range(len(layer)):
                self.check(self.layers[:k] + (layer[:j] + layer[j + 1:],) + self.layers[k + 1:], False)
            if layer:
                self.check(self.layers[:k] + ((),) + self.layers[k + 1:], False)
        self.check(((),) * 4, False)

    def test_a_state_changed(self):
        told = {True: 0, False: 0}
        for k, layer in enumerate(self.layers):
            for j in range(len(layer)):
                for state in product("abcd", repeat=2):
                    changed_layer = tuple(sorted({*layer[:j], state, *layer[j + 1:]}))
                    layers = self.layers[:k] + (changed_layer,) + self.layers[k + 1:]
                    expected = Slow(self.room, self.task).are_layers(layers)
                    told[expected] += 1
                    self.check(layers, expected)
        self.assertGreater(min(told.values()), 2)

    def test_states_more_than_can_be_reached(self):
        first, second, third, last = self.layers
        self.check((first, second, tuple(sorted(third + (("d", "d"),))), last), True)
        self.check((first, second, tuple(sorted(third + (("d", "a"),))), last), True)
        # From there a safe move leads to the goals.
        self.check((first, second, tuple(sorted(third + (("c", "a"),))), last), False)
        # What can be reached from there must be there, too.
        self.check((tuple(sorted(first + (("d", "a"),))), second, third, last), False)

    def test_not_ascending(self):
        first, second, third, last = self.layers
        self.check((first, second[::-1], third, last), False)
        self.check((first, second, third[:1] + third[2:] + third[1:2], last), False)
        self.check((first, second[1:] + second[:1], third, last), False)

    def test_a_state_twice(self):
        first, second, third, last = self.layers
        self.check((first * 2, second, third, last), False)
        self.check((first, second[:1] + second, third, last), False)
        self.check((first, second, third + third[-1:], last), False)

    def test_a_last_layer_that_is_not_empty(self):
        for state in product("abcd", repeat=2):
            self.check(self.layers[:-1] + ((state,),), False)

    def test_what_is_no_state(self):
        for bad in ((), ("a",), ("a", "c", "d"), ("a", "e"), ("x", "c"), ("", "c"), ("a", "C")):
            for k in range(3):
                layer = tuple(sorted(self.layers[k] + (bad,)))
                self.check(self.layers[:k] + (layer,) + self.layers[k + 1:], False)

    def test_a_plan_is_no_layers(self):
        self.assertIs(takes_layers(self.room, self.task, (("a", "c"), ("b", "c"), ("b", "c"), ())), False)
        self.assertIs(takes_layers(self.room, self.task, (("ac",), ("ab", "ac", "bc"), ("ab", "ac", "bc"), ())), False)

    def test_if_there_is_a_plan_no_layers_are_taken(self):
        task = {**self.task, "movers": (("dot", "a", "b", 0, 3), ("dat", "c", "c", 0, 3))}
        states = tuple(product("abcd", repeat=2))
        self.assertEqual(find_plan(self.room, task)[0], "plan")
        self.assertIs(takes_layers(self.room, task, (states, states, states, ())), False)
        self.assertIs(takes_layers(self.room, task, self.layers), False)
        self.assertIs(takes_layers(self.room, task, ((),) * 4), False)

    def test_starts_that_are_not_safe(self):
        task = {**self.task, "movers": (("dot", "a", "b", 0, 3), ("dat", "a", "c", 0, 3))}
        self.assertIs(takes_layers(self.room, task, ((),) * 4), True)
        self.assertIs(takes_layers(self.room, task, ((("a", "a"),), (), (), ())), True)
        self.assertIs(takes_layers(self.room, task, ((("a", "c"),), (), (), ())), False)
        self.assertIs(takes_layers(self.room, task, ((("d", "d"),), (), (), ())), True)
        # A text with as many letters is no state.
        self.assertIs(takes_layers(self.room, task, (("dd",), (), (), ())), False)

    def test_windows_at_tick_0(self):
        task = {**self.task, "movers": (("dot", "a", "b", 0, 0), ("dat", "c", "c", 0, 3))}
        self.assertIs(takes_layers(self.room, task, ((),) * 4), True)
        task = {**self.task, "movers": (("dot", "a", "b", 0, 1), ("dat", "c", "a", 0, 1))}
        self.assertIs(takes_layers(self.room, task, ((),) * 4), False)
        self.assertIs(takes_layers(self.room, task, ((("a", "c"),), (), (), ())), True)

    def test_the_largest_layers(self):
        room = empty(100, 100, dot=POINT_SHAPE, dat=POINT_SHAPE, dit=POINT_SHAPE)
        stations = {name: (7 * k + 5, 5 + 3 * k * k % 80) for k, name in enumerate("abcdefgh")}
        lanes = tuple(("a", name) for name in "bcdefg") + (("b", "c"), ("c", "d"), ("d", "e"), ("e", "f"), ("f", "g"))
        task = meeting(lanes, stations, ("a", "h"), ("b", "b"), ("c", "c"), ticks=12)
        kind, layers = find_plan(room, task)
        self.assertEqual((kind, layers[-1]), ("none", ()))
        self.assertGreater(len(layers[6]), 100)
        self.assertIs(takes_layers(room, task, layers), True)
        self.assertIs(takes_layers(room, task, layers[:5] + (layers[5][:-1],) + layers[6:]), False)

    def test_by_chance(self):
        chance = random.Random(221)
        told = {True: 0, False: 0}
        while min(told.values()) < 25:
            room, task = some_task(chance)
            kind, layers = find_plan(room, task)
            if kind == "none" and layers[0]:
                k = chance.randrange(len(layers) - 1)
                states = list(product(task["stations"], repeat=len(task["movers"])))
                layer = tuple(sorted(set(chance.choice((layers[k][1:], layers[k]))) | {chance.choice(states)}))
                layers = layers[:k] + (layer,) + layers[k + 1:]
                expected = Slow(room, task).are_layers(layers)
                told[expected] += 1
                self.assertIs(takes_layers(room, task, layers), expected)


if __name__ == "__main__":
    unittest.main()
