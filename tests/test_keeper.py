"""Points 23 and 24: keepers, requests, answers that stay right and stay the same, changes and undo."""

import random
import unittest

from cases import AROUND, CASES, LEFT, RIGHT, crowded
from helpers import POINT, SQUARE, box, halves, is_barrier, is_free_place, is_free_way, some_piece, some_room, spot
from test_rooms import LETTERS, NO_NAMES, NO_SHAPES, told

from roomyway import keeper
from roomyway.errors import DuplicateThing, InvalidArgument, NothingToUndo, RoomError, TooLarge, UnknownThing
from roomyway.keeper import Keeper
from roomyway.regions import regions
from roomyway.rooms import Room

WALL = (box(8, 0, 9, 4), box(8, 6, 9, 10))
DOOR = (box(8, 4, 9, 6),)
DOTS = tuple(((k, 0),) for k in range(3))
CHANGES = ("build", "hang", "add_body", "drop", "drop_body", "open_door", "shut_door")


def kept(room):
    """A keeper with all that is in a room."""
    found = Keeper(*room.size())
    for name, shape in room.walls().items():
        found.build(name, shape)
    for name, (shape, shut) in room.doors().items():
        found.hang(name, shape)
        if not shut:
            found.open_door(name)
    for name, shape in room.bodies().items():
        found.add_body(name, shape)
    return found


def answers(one):
    return {name: one.answer(name) for name in one.requests()}


def state(one):
    """All that a keeper tells."""
    return told(one.room()), one.requests(), answers(one), one.changed()


def is_right(room, request, answer):
    """Whether an answer is right for a room, by the document's words."""
    body, start, goal = request
    is_stuck = body not in room.bodies() or not all(is_free_place(room, body, place) for place in (start, goal))
    if is_stuck or answer == ("stuck",):
        return is_stuck and answer == ("stuck",)
    if len(answer) != 2 or type(answer[1]) is not tuple:
        return False
    if answer[0] == "way":
        return is_free_way(room, body, start, goal, answer[1])
    return answer[0] == "barrier" and bool(answer[1]) and is_barrier(room, body, start, goal, answer[1])


class Case(unittest.TestCase):

    def hall(self):
        """A keeper with a wall, a shut door in it, a body and a request."""
        one = Keeper(20, 10)
        one.build("wall", WALL)
        one.hang("door", DOOR)
        one.add_body("box", (SQUARE,))
        one.ask("trip", "box", LEFT, RIGHT)
        return one

    def refused(self, one, error, call, *arguments):
        before = state(one)
        with self.subTest(call=call.__name__, arguments=arguments):
            with self.assertRaises(error) as caught:
                call(*arguments)
            self.assertIs(type(caught.exception), error)
            self.assertEqual(state(one), before)

    def check(self, one):
        """Check that all answers are right."""
        room = one.room()
        for name, request in one.requests().items():
            self.assertTrue(is_right(room, request, one.answer(name)), (name, request, one.answer(name)))

    def done(self, one, call, *arguments):
        """Make a change, and check all that points 23 and 24 say of the answers behind it."""
        before, requests, changed = answers(one), one.requests(), one.changed()
        room = one.room()
        self.assertIsNone(call(*arguments))
        self.check(one)
        if (told(room), requests) == (told(one.room()), one.requests()):
            self.assertEqual((answers(one), one.changed()), (before, changed))
            return
        room = one.room()
        turned = []
        for name, answer in before.items():
            if name in one.requests():
                self.assertEqual(one.requests()[name], requests[name])
                if is_right(room, requests[name], answer):
                    self.assertEqual(one.answer(name), answer)
                if one.answer(name) != answer:
                    turned.append(name)
        self.assertEqual(one.changed(), sorted(turned))
        self.assertIs(type(one.changed()), list)


class AsRooms(Case):
    """What changes of keepers do to the room, and which errors they raise."""

    def test_sizes(self):
        for size in ((2, 2), (1000, 1000), (30, 20)):
            self.assertEqual(told(Keeper(*size).room()), (size, {}, {}, {}))
        for size in ((1, 5), (5, 1), (1001, 5), (5, 1001), (-1, -1)):
            with self.assertRaises(InvalidArgument):
                Keeper(*size)

    def test_a_new_keeper(self):
        one = Keeper(20, 10)
        self.assertEqual(one.requests(), {})
        self.assertEqual(one.changed(), [])
        self.refused(one, NothingToUndo, one.undo)

    def test_each_is_defined_in_its_file(self):
        self.assertEqual(Keeper.__module__, keeper.__name__)
        for name in CHANGES + ("ask", "forget", "undo", "room", "requests", "answer", "changed", "__init__"):
            self.assertIn(name, vars(Keeper))

    def test_each_change(self):
        one, room = Keeper(20, 10), Room(20, 10)
        for call, *arguments in (
            ("build", "wall", WALL), ("hang", "door", DOOR), ("add_body", "box", (SQUARE,)), ("open_door", "door"),
            ("shut_door", "door"), ("hang", "gate", (SQUARE,)), ("open_door", "gate"), ("drop", "wall"),
            ("build", "wall", (SQUARE,)), ("drop", "gate"), ("drop_body", "box"), ("add_body", "box", DOTS),
            ("hang", "box", DOOR), ("build", "z" * 12, (((-1000, 2000),),)),
        ):
            self.assertIsNone(getattr(one, call)(*arguments))
            getattr(room, call)(*arguments)
            self.assertEqual(told(one.room()), told(room))

    def test_malformed_names_and_shapes(self):
        one = self.hall()
        for name in NO_NAMES:
            for call in (one.build, one.hang, one.add_body):
                self.refused(one, InvalidArgument, call, name, (SQUARE,))
            for call in (one.drop, one.drop_body, one.open_door, one.shut_door):
                self.refused(one, UnknownThing, call, name)
        for shape in NO_SHAPES:
            for call in (one.build, one.hang, one.add_body):
                self.refused(one, InvalidArgument, call, "a", shape)
        self.refused(one, InvalidArgument, one.build, "a", (((2001, 0),),))
        self.refused(one, InvalidArgument, one.hang, "a", (((0, -1001),),))
        self.refused(one, InvalidArgument, one.add_body, "a", (((201, 0),),))

    def test_other_errors(self):
        one = self.hall()
        for name in ("wall", "door"):
            self.refused(one, DuplicateThing, one.build, name, (SQUARE,))
            self.refused(one, DuplicateThing, one.hang, name, (SQUARE,))
        self.refused(one, DuplicateThing, one.add_body, "box", DOTS)
        self.refused(one, UnknownThing, one.drop, "box")
        self.refused(one, UnknownThing, one.drop_body, "wall")
        self.refused(one, UnknownThing, one.open_door, "wall")
        self.refused(one, UnknownThing, one.shut_door, "trip")
        for name in LETTERS[:10]:
            one.build(name, (((0, 0),),))
        self.refused(one, TooLarge, one.build, "z", (SQUARE,))
        self.refused(one, TooLarge, one.hang, "z", (SQUARE,))
        for name in LETTERS[:3]:
            one.add_body(name, (SQUARE,))
        self.refused(one, TooLarge, one.add_body, "z", (SQUARE,))

    def test_changes_by_chance(self):
        chance = random.Random(230)
        raised = {}
        for _ in range(30):
            one, room = Keeper(8, 8), Room(8, 8)
            for _ in range(60):
                call, name = chance.choice(CHANGES), chance.choice(LETTERS[:16])
                arguments = (name, (some_piece(chance, -1, 8),)) if CHANGES.index(call) < 3 else (name,)
                outcome = []
                for thing in (one, room):
                    try:
                        outcome.append(getattr(thing, call)(*arguments))
                    except RoomError as error:
                        outcome.append(type(error))
                self.assertEqual(outcome[0], outcome[1])
                self.assertEqual(told(one.room()), told(room))
                raised[outcome[0]] = raised.get(outcome[0], 0) + 1
        self.assertEqual(set(raised), {None, DuplicateThing, UnknownThing, TooLarge})

    def test_the_room_is_a_copy(self):
        one = self.hall()
        before = state(one)
        room = one.room()
        room.drop("wall")
        room.open_door("door")
        room.drop_body("box")
        room.add_body("more", (SQUARE,))
        self.assertEqual(state(one), before)
        other = one.room()
        self.assertIsNot(other, one.room())
        one.drop("wall")
        self.assertEqual(told(other), before[0])


class TooManyRegions(Case):

    def test_a_body_with_a_request(self):
        one = kept(crowded(16))
        one.ask("a", "mover", spot(1, 1), spot("103/2", 1))
        self.assertEqual(len(regions(one.room(), "mover")), 60)
        self.refused(one, TooLarge, one.build, "z", (SQUARE,))
        self.refused(one, TooLarge, one.hang, "z", (SQUARE,))
        one.forget("a")
        one.build("z", (SQUARE,))
        self.assertEqual(len(regions(one.room(), "mover")), 63)
        self.refused(one, TooLarge, one.ask, "a", "mover", spot(1, 1), spot("103/2", 1))
        self.refused(one, TooLarge, one.ask, "a", "mover", spot(0, 0), spot(0, 0))

    def test_doors(self):
        one = kept(crowded(15))
        one.hang("y", (((0, 0),),))
        one.hang("z", (((0, 0),),))
        one.open_door("z")
        one.ask("a", "mover", spot(1, 1), spot(1, 2))
        self.refused(one, TooLarge, one.shut_door, "z")
        one.open_door("y")
        one.shut_door("z")
        self.refused(one, TooLarge, one.shut_door, "y")
        self.assertEqual(one.room().doors(), {"y": ((((0, 0),),), False), "z": ((((0, 0),),), True)})
        one.drop("z")
        one.shut_door("y")

    def test_other_bodies_do_not_matter(self):
        one = kept(crowded(17))
        one.add_body("dot", (POINT,))
        one.ask("a", "dot", spot(1, 1), spot(1, 2))
        one.build("z", (SQUARE,))
        self.check(one)

    def test_a_body_that_comes_again(self):
        one = kept(crowded(17))
        one.add_body("dot", (POINT,))
        one.ask("a", "dot", spot(2, 2), spot(1, 2))
        one.drop_body("dot")
        self.refused(one, TooLarge, one.add_body, "dot", DOTS)
        one.build("z", (SQUARE,))
        one.add_body("dot", (POINT, POINT))
        self.check(one)
        self.assertEqual(one.answer("a")[0], "way")

    def test_requests_that_are_stuck_count_too(self):
        one = kept(crowded(16))
        one.ask("a", "mover", spot(0, 0), spot(0, 0))
        self.refused(one, TooLarge, one.build, "z", (SQUARE,))
        one.drop_body("mover")
        one.build("z", (SQUARE,))

    def test_the_errors_of_rooms_come_first(self):
        one = kept(crowded(16))
        one.ask("a", "mover", spot(1, 1), spot(1, 2))
        self.refused(one, DuplicateThing, one.build, "a", (SQUARE,))
        self.refused(one, InvalidArgument, one.hang, "Z", (SQUARE,))
        one.undo()
        self.assertEqual(one.requests(), {})


class Requests(Case):

    def test_requests(self):
        one = self.hall()
        self.assertEqual(one.requests(), {"trip": ("box", LEFT, RIGHT)})
        self.assertIs(type(one.requests()), dict)
        self.assertIsNone(one.ask("a", "box", RIGHT, LEFT))
        self.assertEqual(one.requests(), {"trip": ("box", LEFT, RIGHT), "a": ("box", RIGHT, LEFT)})
        self.assertIsNone(one.forget("trip"))
        self.assertEqual(one.requests(), {"a": ("box", RIGHT, LEFT)})

    def test_at_most_six(self):
        one = self.hall()
        for name in LETTERS[:5]:
            one.ask(name, "box", LEFT, RIGHT)
        self.refused(one, TooLarge, one.ask, "z", "box", LEFT, RIGHT)
        one.forget("trip")
        one.ask("z", "box", LEFT, RIGHT)
        self.assertEqual(sorted(one.requests()), ["a", "b", "c", "d", "e", "z"])
        self.refused(one, TooLarge, one.ask, "trip", "box", LEFT, RIGHT)

    def test_errors(self):
        one = self.hall()
        for name in NO_NAMES:
            self.refused(one, InvalidArgument, one.ask, name, "box", LEFT, RIGHT)
            self.refused(one, UnknownThing, one.forget, name)
            self.refused(one, UnknownThing, one.answer, name)
            self.refused(one, UnknownThing, one.ask, "a", name, LEFT, RIGHT)
        self.refused(one, DuplicateThing, one.ask, "trip", "box", RIGHT, LEFT)
        for body in ("wall", "door", "trip", "boxes"):
            self.refused(one, UnknownThing, one.ask, "a", body, LEFT, RIGHT)
        for name in ("box", "wall", "tri", "a"):
            self.refused(one, UnknownThing, one.forget, name)
            self.refused(one, UnknownThing, one.answer, name)
        one.forget("trip")
        self.refused(one, UnknownThing, one.forget, "trip")
        self.refused(one, UnknownThing, one.answer, "trip")

    def test_the_order_of_errors(self):
        one = self.hall()
        for name in LETTERS[:5]:
            one.ask(name, "box", LEFT, RIGHT)
        self.refused(one, InvalidArgument, one.ask, "A", "none", LEFT, RIGHT)
        self.refused(one, DuplicateThing, one.ask, "a", "none", LEFT, RIGHT)
        self.refused(one, UnknownThing, one.ask, "z", "none", LEFT, RIGHT)
        self.refused(one, TooLarge, one.ask, "z", "box", LEFT, RIGHT)

    def test_names_are_free_again(self):
        one = self.hall()
        one.ask("wall", "box", LEFT, LEFT)
        one.forget("wall")
        one.ask("wall", "box", RIGHT, RIGHT)
        self.assertEqual(one.answer("wall"), ("way", (RIGHT,)))

    def test_dicts_and_lists_belong_to_the_caller(self):
        one = self.hall()
        one.open_door("door")
        before = state(one)
        one.requests().clear()
        one.requests()["trip"] = None
        one.changed().append("more")
        one.changed().clear()
        self.assertEqual(state(one), before)
        self.assertEqual(one.changed(), ["trip"])
        requests, changed = one.requests(), one.changed()
        one.ask("a", "box", LEFT, RIGHT)
        one.drop("wall")
        self.assertEqual((requests, changed), (before[1], ["trip"]))


class Answers(Case):

    def test_each_case(self):
        for name, (room, start, goal, is_there) in CASES.items():
            with self.subTest(name=name):
                one = kept(room)
                self.done(one, one.ask, "a", "mover", start, goal)
                self.assertEqual(one.answer("a")[0], "way" if is_there else "barrier")

    def test_a_door(self):
        one = self.hall()
        self.check(one)
        self.assertEqual(one.answer("trip")[0], "barrier")
        self.done(one, one.open_door, "door")
        self.assertEqual(one.changed(), ["trip"])
        self.assertEqual(one.answer("trip")[0], "way")
        self.done(one, one.shut_door, "door")
        self.assertEqual(one.changed(), ["trip"])
        self.assertEqual(one.answer("trip")[0], "barrier")

    def test_stuck(self):
        one = self.hall()
        for start, goal in ((spot(0, 5), RIGHT), (LEFT, spot(8, 5)), (spot(-5, 5), spot(10 ** 9, 5))):
            self.done(one, one.ask, "a", "box", start, goal)
            self.assertEqual(one.answer("a"), ("stuck",))
            one.forget("a")

    def test_what_is_built_on_a_place(self):
        one = self.hall()
        for place in (LEFT, RIGHT):
            for call in (one.build, one.hang):
                x, y = place[0][0], place[1][0]
                self.done(one, call, "more", (((x, y),),))
                self.assertEqual(one.answer("trip"), ("stuck",))
                self.assertEqual(one.changed(), ["trip"])
                self.done(one, one.drop, "more")
                self.assertEqual(one.answer("trip")[0], "barrier")
                self.assertEqual(one.changed(), ["trip"])

    def test_a_body_that_is_dropped(self):
        one = self.hall()
        one.open_door("door")
        self.done(one, one.drop_body, "box")
        self.assertEqual(one.answer("trip"), ("stuck",))
        self.assertEqual(one.changed(), ["trip"])
        self.assertEqual(one.requests(), {"trip": ("box", LEFT, RIGHT)})
        self.done(one, one.shut_door, "door")
        self.assertEqual((one.answer("trip"), one.changed()), (("stuck",), []))
        self.done(one, one.open_door, "door")
        self.done(one, one.add_body, "box", (box(0, 0, 1, 2),))
        self.assertEqual((one.answer("trip")[0], one.changed()), ("barrier", ["trip"]))
        self.done(one, one.drop_body, "box")
        self.done(one, one.add_body, "box", (SQUARE,))
        self.assertEqual((one.answer("trip")[0], one.changed()), ("way", ["trip"]))

    def test_a_way_that_is_still_free_stays(self):
        one = kept(AROUND)
        one.ask("a", "mover", LEFT, RIGHT)
        way = one.answer("a")
        self.assertGreater(len(way[1]), 2)
        self.done(one, one.build, "far", (box(1, 1, 2, 2),))
        self.assertEqual((one.answer("a"), one.changed()), (way, []))
        # Without the wall a straight way would do, but nobody has to turn round.
        self.done(one, one.drop, "a")
        self.assertEqual((one.answer("a"), one.changed()), (way, []))
        self.done(one, one.add_body, "other", (SQUARE,))
        self.assertEqual(one.answer("a"), way)

    def test_a_way_that_is_touched_does_not(self):
        one = kept(AROUND)
        one.ask("a", "mover", LEFT, RIGHT)
        way = one.answer("a")[1]
        (x, xd), (y, yd) = way[1]
        self.done(one, one.build, "more", (box(x // xd, y // yd, x // xd + 1, y // yd + 1),))
        self.assertNotEqual(one.answer("a"), ("way", way))
        self.assertEqual(one.changed(), ["a"])

    def test_a_barrier_that_is_still_one_stays(self):
        one = self.hall()
        barrier = one.answer("trip")
        for call, *arguments in (
            (one.build, "far", (box(15, 1, 16, 2),)), (one.hang, "gate", (box(12, 0, 13, 10),)),
            (one.open_door, "gate"), (one.shut_door, "gate"), (one.drop, "far"), (one.add_body, "more", DOTS),
            (one.drop_body, "more"),
        ):
            self.done(one, call, *arguments)
            self.assertEqual((one.answer("trip"), one.changed()), (barrier, []))
        # There is another barrier, at the gate, but the one of before is gone.
        self.done(one, one.open_door, "door")
        self.assertEqual(one.answer("trip")[0], "barrier")
        self.assertEqual(one.changed(), ["trip"])

    def test_the_list_of_those_changed(self):
        one = self.hall()
        for name, goal in (("b", LEFT), ("z", RIGHT), ("a", RIGHT), ("c", spot(8, "9/2"))):
            self.done(one, one.ask, name, "box", LEFT, goal)
            self.assertEqual(one.changed(), [])
        self.done(one, one.open_door, "door")
        # The goal of c is in the door.
        self.assertEqual(one.changed(), ["a", "c", "trip", "z"])
        self.done(one, one.forget, "z")
        self.assertEqual(one.changed(), [])
        self.done(one, one.shut_door, "door")
        self.assertEqual(one.changed(), ["a", "c", "trip"])
        self.done(one, one.ask, "z", "box", LEFT, RIGHT)
        self.assertEqual(one.changed(), [])

    def test_errors_and_questions_do_not_change_it(self):
        one = self.hall()
        one.open_door("door")
        self.refused(one, DuplicateThing, one.build, "wall", WALL)
        self.refused(one, UnknownThing, one.forget, "a")
        one.room(), one.requests(), one.answer("trip"), one.changed()
        self.assertEqual(one.changed(), ["trip"])

    def test_several_bodies(self):
        one = self.hall()
        one.add_body("dot", (POINT,))
        one.ask("dots", "dot", LEFT, RIGHT)
        one.build("upper", (box(8, 4, 9, 5),))
        one.open_door("door")
        self.assertEqual((one.answer("trip")[0], one.answer("dots")[0]), ("barrier", "way"))
        self.done(one, one.drop, "upper")
        self.assertEqual((one.answer("trip")[0], one.changed()), ("way", ["trip"]))


class Undoing(Case):

    def test_each_change(self):
        one = self.hall()
        one.hang("gate", (box(1, 1, 2, 2),))
        one.open_door("gate")
        for call, *arguments in (
            (one.build, "a", DOTS), (one.hang, "a", DOTS), (one.add_body, "a", DOTS), (one.drop, "wall"),
            (one.drop, "door"), (one.drop_body, "box"), (one.open_door, "door"), (one.shut_door, "gate"),
            (one.ask, "a", "box", LEFT, LEFT), (one.forget, "trip"),
        ):
            with self.subTest(call=call.__name__):
                before = told(one.room()), one.requests()
                self.done(one, call, *arguments)
                self.assertNotEqual((told(one.room()), one.requests()), before)
                self.done(one, one.undo)
                self.assertEqual((told(one.room()), one.requests()), before)

    def test_one_after_the_other(self):
        one = self.hall()
        self.done(one, one.open_door, "door")
        self.done(one, one.drop_body, "box")
        for expected in (
            (["wall"], {"door": (DOOR, False)}, ["box"], ["trip"]), (["wall"], {"door": (DOOR, True)}, ["box"], ["trip"]),
            (["wall"], {"door": (DOOR, True)}, ["box"], []), (["wall"], {"door": (DOOR, True)}, [], []),
            (["wall"], {}, [], []), ([], {}, [], []),
        ):
            self.done(one, one.undo)
            room = one.room()
            found = list(room.walls()), room.doors(), list(room.bodies()), list(one.requests())
            self.assertEqual(found, expected)
        for _ in range(2):
            self.refused(one, NothingToUndo, one.undo)

    def test_a_door_that_is_so_already_is_no_change(self):
        one = self.hall()
        one.open_door("door")
        for _ in range(3):
            self.assertIsNone(one.open_door("door"))
            self.assertEqual(one.changed(), ["trip"])
        one.undo()
        self.assertEqual(one.room().doors(), {"door": (DOOR, True)})
        for _ in range(3):
            one.shut_door("door")
        one.undo()
        self.assertEqual(one.requests(), {})

    def test_what_raises_an_error_is_no_change(self):
        one = self.hall()
        for call, *arguments in (
            (one.build, "wall", WALL), (one.drop, "a"), (one.open_door, "a"), (one.ask, "trip", "box", LEFT, RIGHT),
            (one.forget, "a"), (one.drop_body, "a"), (one.add_body, "A", DOTS),
        ):
            with self.assertRaises(RoomError):
                call(*arguments)
        one.undo()
        self.assertEqual((one.requests(), sorted(one.room().bodies())), ({}, ["box"]))

    def test_what_was_taken_back_is_not_taken_back_again(self):
        one = self.hall()
        one.open_door("door")
        one.undo()
        one.build("a", DOTS)
        one.undo()
        one.undo()
        self.assertEqual(one.requests(), {})
        self.assertEqual(sorted(one.room().walls()), ["wall"])

    def test_requests_come_back(self):
        one = self.hall()
        one.forget("trip")
        one.open_door("door")
        one.ask("trip", "box", RIGHT, LEFT)
        self.done(one, one.undo)
        self.assertEqual((one.requests(), one.changed()), ({}, []))
        self.done(one, one.undo)
        self.done(one, one.undo)
        self.assertEqual(one.requests(), {"trip": ("box", LEFT, RIGHT)})
        self.assertEqual((one.answer("trip")[0], one.changed()), ("barrier", []))

    def test_answers_that_are_still_right_stay_when_a_change_is_taken_back(self):
        one = kept(AROUND)
        one.drop("a")
        one.ask("a", "mover", LEFT, RIGHT)
        one.build("a", AROUND.walls()["a"])
        way = one.answer("a")
        self.done(one, one.undo)
        self.assertEqual((one.answer("a"), one.changed()), (way, []))

    def test_a_change_that_is_taken_back_changes_answers(self):
        one = self.hall()
        one.open_door("door")
        one.ask("a", "box", LEFT, LEFT)
        one.undo()
        self.assertEqual(one.changed(), [])
        one.undo()
        self.assertEqual((one.answer("trip")[0], one.changed()), ("barrier", ["trip"]))

    def test_many_regions_come_back(self):
        one = kept(crowded(16))
        one.ask("a", "mover", spot(1, 1), spot("103/2", 1))
        one.drop("a")
        one.undo()
        self.check(one)
        one.forget("a")
        one.build("z", (SQUARE,))
        one.undo()
        one.undo()
        self.assertEqual(list(one.requests()), ["a"])
        self.check(one)

    def test_keepers_are_independent(self):
        one, other = self.hall(), self.hall()
        before = state(other)
        one.open_door("door")
        one.forget("trip")
        self.assertEqual(state(other), before)


class ByChance(Case):

    def test_changes_and_undo(self):
        chance = random.Random(24)
        kinds = {}
        for _ in range(15):
            one = kept(some_room(chance))
            history = []
            places = [place for place in halves(one.room()) if is_free_place(one.room(), "mover", place)]
            places = chance.sample(places, min(5, len(places))) + [spot(1, 1)]
            for _ in range(40):
                self.step(chance, one, places, history)
                for name in one.requests():
                    kinds[one.answer(name)[0]] = kinds.get(one.answer(name)[0], 0) + 1
            while history:
                self.done(one, one.undo)
                self.assertEqual((told(one.room()), one.requests()), history.pop())
        self.assertGreater(min(kinds[kind] for kind in ("way", "barrier", "stuck")), 20)

    def step(self, chance, one, places, history):
        before = told(one.room()), one.requests()
        call, *arguments = self.some_call(chance, one, places, history)
        try:
            self.done(one, call, *arguments)
        except RoomError:
            self.assertEqual((told(one.room()), one.requests()), before)
            return
        if call == one.undo:
            self.assertEqual((told(one.room()), one.requests()), history.pop())
        elif (told(one.room()), one.requests()) != before:
            history.append(before)

    def some_call(self, chance, one, places, history):
        """A call of a keeper, with its arguments, by chance."""
        name = chance.choice("abcdef")
        kind = chance.choice(("add", "drop", "door", "door", "ask", "ask", "forget", "undo", "body"))
        if kind == "add":
            x = chance.randint(1, 8)
            piece = chance.choice((some_piece(chance, -1, 10), ((x, 0), (x, 12)), ((0, x), (12, x))))
            return chance.choice((one.build, one.hang)), name, (piece,)
        if kind == "ask":
            return one.ask, name, "mover", chance.choice(places), chance.choice(places)
        if kind == "body" and "mover" in one.room().bodies():
            return one.drop_body, "mover"
        if kind == "body" or "mover" not in one.room().bodies():
            return one.add_body, "mover", (some_piece(chance, -1, 1),)
        if kind == "undo" and history:
            return one.undo,
        return chance.choice({"drop": (one.drop,), "forget": (one.forget,)}.get(kind, (one.open_door, one.shut_door))), name


if __name__ == "__main__":
    unittest.main()
