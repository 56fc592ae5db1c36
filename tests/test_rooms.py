"""Point 10: rooms, walls, doors, bodies, shapes and their bounds."""

import unittest
from fractions import Fraction
from itertools import permutations

from helpers import SQUARE, box, is_proper

from roomyway import rooms
from roomyway.errors import DuplicateThing, InvalidArgument, TooLarge, UnknownThing
from roomyway.rooms import Room, is_shape

SHAPE = (SQUARE,)
OTHER = (box(3, 3, 4, 5), ((0, 0),), ((1, 2), (2, 1)))
OCTAGON = ((0, 1), (1, 0), (2, 0), (3, 1), (3, 2), (2, 3), (1, 3), (0, 2))
NONAGON = ((0, 1), (1, 0), (2, 0), (4, 1), (5, 3), (5, 4), (4, 5), (1, 5), (0, 4))
NO_NAMES = ["", "a" * 13, "A", "a1", "a b", "\u00e4", None, True, 0, 1.5, b"a", (), ("a",), ["a"], {}, {"a"}, object()]
NO_SHAPES = [
    (), [SQUARE], [], None, True, False, 0, "", "shape", {}, {SQUARE}, SQUARE, object(), 1.5, (SQUARE, None),
    (SQUARE, SQUARE, SQUARE, SQUARE), (list(SQUARE),), ((),), (SQUARE, ()), (SQUARE[::-1],), (SQUARE[1:] + SQUARE[:1],),
    (((0, 0), (0, 0)),), (((1, 0), (0, 0)),), (((0, 0), (1, 1), (2, 2)),), (NONAGON,), (SQUARE, NONAGON),
    (((0, True),),), (((False, 0),),), (((0, 1.0),),), (((0, 0, 0),),), (((0,),),), (([0, 0],),), ((Fraction(0), 1),),
    ((((0, 0), (4, 0), (4, 2), (2, 2), (0, 2))),),
]
LETTERS = "abcdefghijklmnopqrstuvwxyz"


def told(room):
    return room.size(), room.walls(), room.doors(), room.bodies()


class Case(unittest.TestCase):

    def refused(self, room, error, call, *arguments):
        """Check that a call raises just that error, and that it changes nothing."""
        before = told(room)
        with self.assertRaises(error) as caught:
            call(*arguments)
        self.assertIs(type(caught.exception), error, arguments)
        self.assertEqual(told(room), before)


class Sizes(Case):

    def test_sizes(self):
        for size in ((2, 2), (2, 1000), (1000, 2), (1000, 1000), (30, 20)):
            with self.subTest(size=size):
                self.assertEqual(Room(*size).size(), size)
                self.assertIs(type(Room(*size).size()), tuple)

    def test_out_of_range(self):
        for wrong in (1, 0, -1, -5, 1001, 10 ** 20):
            for size in ((wrong, 5), (5, wrong), (wrong, wrong)):
                with self.subTest(size=size):
                    with self.assertRaises(InvalidArgument):
                        Room(*size)

    def test_a_new_room_is_empty(self):
        self.assertEqual(told(Room(5, 6)), ((5, 6), {}, {}, {}))

    def test_each_is_defined_in_its_file(self):
        self.assertEqual(Room.__module__, "roomyway.rooms")
        self.assertEqual(rooms.is_shape.__module__, "roomyway.rooms")
        for name in (
            "__init__", "build", "hang", "add_body", "drop", "drop_body", "open_door", "shut_door", "size", "walls",
            "bodies", "doors", "copy",
        ):
            self.assertIn(name, vars(Room))


class Shapes(unittest.TestCase):

    def test_shapes(self):
        for shape in (SHAPE, OTHER, (OCTAGON,), (OCTAGON,) * 3, (((0, 0),),), (SQUARE, SQUARE), (((0, 0), (0, 9)),)):
            with self.subTest(shape=shape):
                self.assertIs(is_shape(shape, -10, 10), True)

    def test_no_shapes(self):
        for thing in NO_SHAPES:
            with self.subTest(thing=thing):
                self.assertIs(is_shape(thing, -10, 10), False)

    def test_bounds(self):
        for shape in ((box(-3, 0, 0, 5),), (((0, 0),), ((-3, 0),), ((0, 5),)), (((-3, 5),),)):
            with self.subTest(shape=shape):
                self.assertIs(is_shape(shape, -3, 5), True)
                self.assertIs(is_shape(shape, -2, 5), False)
                self.assertIs(is_shape(shape, -3, 4), False)
                self.assertIs(is_shape(shape, 5, -3), False)
        self.assertIs(is_shape((((5, -3),),), -3, 5), True)
        self.assertIs(is_shape((((0, 0),),), 0, 0), True)
        self.assertIs(is_shape((((0, 1),),), 0, 0), False)
        self.assertIs(is_shape((((1, 0),),), 0, 0), False)
        self.assertIs(is_shape((((-1, 0),),), 0, 0), False)
        self.assertIs(is_shape((((0, -1),),), 0, 0), False)

    def test_how_many_corners(self):
        self.assertTrue(is_proper(OCTAGON) and is_proper(NONAGON))
        self.assertIs(is_shape((OCTAGON,), 0, 5), True)
        self.assertIs(is_shape((NONAGON,), 0, 5), False)


class Adding(Case):

    def setUp(self):
        self.room = Room(20, 10)
        self.adders = (self.room.build, self.room.hang, self.room.add_body)

    def test_walls_doors_and_bodies(self):
        self.assertIsNone(self.room.build("wall", SHAPE))
        self.assertIsNone(self.room.hang("door", OTHER))
        self.assertIsNone(self.room.add_body("body", SHAPE))
        self.assertIsNone(self.room.build("z" * 12, OTHER))
        self.assertEqual(self.room.walls(), {"wall": SHAPE, "z" * 12: OTHER})
        self.assertEqual(self.room.doors(), {"door": (OTHER, True)})
        self.assertIs(self.room.doors()["door"][1], True)
        self.assertEqual(self.room.bodies(), {"body": SHAPE})

    def test_malformed_names(self):
        for name in NO_NAMES:
            for adder in self.adders:
                with self.subTest(name=name):
                    self.refused(self.room, InvalidArgument, adder, name, SHAPE)

    def test_malformed_shapes(self):
        for shape in NO_SHAPES:
            for adder in self.adders:
                with self.subTest(shape=shape):
                    self.refused(self.room, InvalidArgument, adder, "a", shape)

    def test_bounds_of_walls_and_doors(self):
        for k, corner in enumerate(((-1000, 2000), (2000, -1000), (-1000, -1000), (2000, 2000))):
            self.room.build("a" * (k + 1), ((corner,),))
            self.room.hang("b" * (k + 1), ((corner,),))
        for corner in ((-1001, 0), (0, -1001), (2001, 0), (0, 2001), (10001, 0)):
            for adder in self.adders[:2]:
                self.refused(self.room, InvalidArgument, adder, "c", ((corner,),))
                self.refused(self.room, InvalidArgument, adder, "c", (SQUARE, (corner,)))

    def test_bounds_of_bodies(self):
        for k, corner in enumerate(((-200, 200), (200, -200), (-200, -200), (200, 200))):
            self.room.add_body("a" * (k + 1), ((corner,),))
        self.room.drop_body("a")
        for corner in ((-201, 0), (0, -201), (201, 0), (0, 201), (1000, 0)):
            self.refused(self.room, InvalidArgument, self.room.add_body, "c", ((corner,),))

    def test_names_that_are_taken(self):
        self.room.build("wall", SHAPE)
        self.room.hang("door", SHAPE)
        self.room.add_body("body", SHAPE)
        for name in ("wall", "door"):
            self.refused(self.room, DuplicateThing, self.room.build, name, OTHER)
            self.refused(self.room, DuplicateThing, self.room.hang, name, OTHER)
        self.refused(self.room, DuplicateThing, self.room.add_body, "body", OTHER)
        self.room.add_body("wall", SHAPE)
        self.room.add_body("door", SHAPE)
        self.room.build("body", SHAPE)
        self.refused(self.room, DuplicateThing, self.room.hang, "body", OTHER)

    def test_names_are_free_again(self):
        self.room.build("a", SHAPE)
        self.room.drop("a")
        self.room.hang("a", OTHER)
        self.room.drop("a")
        self.room.build("a", OTHER)
        self.room.add_body("b", SHAPE)
        self.room.drop_body("b")
        self.room.add_body("b", OTHER)
        self.assertEqual(told(self.room)[1:], ({"a": OTHER}, {}, {"b": OTHER}))

    def test_too_many_walls_and_doors(self):
        for many_walls in (0, 5, 12):
            room = Room(20, 10)
            for k, name in enumerate(LETTERS[:12]):
                (room.build if k < many_walls else room.hang)(name, SHAPE)
            self.assertEqual(len(room.walls()) + len(room.doors()), 12)
            self.refused(room, TooLarge, room.build, "z", SHAPE)
            self.refused(room, TooLarge, room.hang, "z", SHAPE)
            room.drop("c")
            room.hang("z", SHAPE)
            self.refused(room, TooLarge, room.build, "c", SHAPE)
            for name in LETTERS[:4]:
                room.add_body(name, SHAPE)

    def test_open_doors_count_too(self):
        for name in LETTERS[:12]:
            self.room.hang(name, SHAPE)
            self.room.open_door(name)
        self.refused(self.room, TooLarge, self.room.build, "z", SHAPE)

    def test_too_many_bodies(self):
        for name in LETTERS[:4]:
            self.room.add_body(name, SHAPE)
        self.refused(self.room, TooLarge, self.room.add_body, "z", SHAPE)
        self.room.drop_body("b")
        self.room.add_body("z", SHAPE)
        self.refused(self.room, TooLarge, self.room.add_body, "b", SHAPE)
        for name in LETTERS[:12]:
            self.room.build(name, SHAPE)

    def test_the_order_of_errors(self):
        for name in LETTERS[:12]:
            self.room.build(name, SHAPE)
        for name in LETTERS[:4]:
            self.room.add_body(name, SHAPE)
        for adder in self.adders:
            self.refused(self.room, InvalidArgument, adder, "a", ())
            self.refused(self.room, InvalidArgument, adder, "A", SHAPE)
            self.refused(self.room, InvalidArgument, adder, "z", None)
            self.refused(self.room, DuplicateThing, adder, "a", SHAPE)
            self.refused(self.room, TooLarge, adder, "z", SHAPE)


class Changing(Case):

    def setUp(self):
        self.room = Room(20, 10)
        self.room.build("wall", SHAPE)
        self.room.hang("door", OTHER)
        self.room.add_body("body", SHAPE)

    def test_drop(self):
        self.assertIsNone(self.room.drop("wall"))
        self.assertEqual(told(self.room)[1:], ({}, {"door": (OTHER, True)}, {"body": SHAPE}))
        self.assertIsNone(self.room.drop("door"))
        self.assertEqual(told(self.room)[1:], ({}, {}, {"body": SHAPE}))
        self.assertIsNone(self.room.drop_body("body"))
        self.assertEqual(told(self.room)[1:], ({}, {}, {}))

    def test_what_is_not_there(self):
        for name in ("body", "walls", "doo", "z", ""):
            self.refused(self.room, UnknownThing, self.room.drop, name)
        for name in ("wall", "door", "bod"):
            self.refused(self.room, UnknownThing, self.room.drop_body, name)
        for name in ("wall", "body", "doors"):
            self.refused(self.room, UnknownThing, self.room.open_door, name)
            self.refused(self.room, UnknownThing, self.room.shut_door, name)

    def test_names_of_other_kinds(self):
        for name in ("A", "a b", "a" * 13, None, 0, b"wall", (), ("wall",)):
            for call in (self.room.drop, self.room.drop_body, self.room.open_door, self.room.shut_door):
                self.refused(self.room, UnknownThing, call, name)

    def test_twice(self):
        self.room.drop("wall")
        self.room.drop("door")
        self.room.drop_body("body")
        for name in ("wall", "door"):
            self.refused(self.room, UnknownThing, self.room.drop, name)
        self.refused(self.room, UnknownThing, self.room.drop_body, "body")
        self.refused(self.room, UnknownThing, self.room.open_door, "door")
        self.refused(self.room, UnknownThing, self.room.shut_door, "door")

    def test_opening_and_shutting(self):
        self.room.hang("other", SHAPE)
        for call, other_call in permutations((self.room.open_door, self.room.shut_door)):
            for _ in range(2):
                self.assertIsNone(call("door"))
                self.assertIs(self.room.doors()["door"][1], call == self.room.shut_door)
                self.assertEqual(self.room.doors()["door"][0], OTHER)
                self.assertEqual(self.room.doors()["other"], (SHAPE, True))
            other_call("door")
            self.assertIs(self.room.doors()["door"][1], call == self.room.open_door)

    def test_a_door_that_is_hung_again_is_shut(self):
        self.room.open_door("door")
        self.room.drop("door")
        self.room.hang("door", OTHER)
        self.assertEqual(self.room.doors(), {"door": (OTHER, True)})


class Telling(Case):

    def setUp(self):
        self.room = Room(20, 10)
        self.room.build("wall", SHAPE)
        self.room.hang("door", OTHER)
        self.room.hang("gate", SHAPE)
        self.room.open_door("gate")
        self.room.add_body("body", SHAPE)

    def test_dicts_belong_to_the_caller(self):
        before = told(self.room)
        for table in (self.room.walls(), self.room.doors(), self.room.bodies()):
            self.assertIs(type(table), dict)
            for name in list(table):
                table[name] = None
            table["more"] = SHAPE
            table.pop("wall", None)
        self.assertEqual(told(self.room), before)
        self.room.walls().clear()
        self.room.doors().clear()
        self.room.bodies().clear()
        self.assertEqual(told(self.room), before)
        self.room.build("more", SHAPE)

    def test_dicts_do_not_change_later(self):
        walls, doors, bodies = self.room.walls(), self.room.doors(), self.room.bodies()
        self.room.drop("wall")
        self.room.open_door("door")
        self.room.drop_body("body")
        self.assertEqual((walls, doors["door"], bodies), ({"wall": SHAPE}, (OTHER, True), {"body": SHAPE}))

    def test_the_copy_is_like_it(self):
        copy = self.room.copy()
        self.assertIs(type(copy), Room)
        self.assertIsNot(copy, self.room)
        self.assertEqual(told(copy), told(self.room))
        self.assertEqual(copy.doors(), {"door": (OTHER, True), "gate": (SHAPE, False)})

    def change(self, room):
        room.build("new", SHAPE)
        room.drop("wall")
        room.open_door("door")
        room.shut_door("gate")
        room.hang("another", SHAPE)
        room.add_body("twin", OTHER)
        room.drop_body("body")

    def test_the_copy_is_independent(self):
        copy = self.room.copy()
        before = told(self.room)
        self.change(copy)
        self.assertEqual(told(self.room), before)
        self.assertNotEqual(told(copy), before)

    def test_the_room_is_independent_of_its_copy(self):
        copy = self.room.copy()
        before = told(copy)
        self.change(self.room)
        self.assertEqual(told(copy), before)
        self.assertEqual(told(copy.copy()), before)

    def test_rooms_are_independent(self):
        other = Room(20, 10)
        self.assertEqual(told(other), ((20, 10), {}, {}, {}))
        other.build("wall", OTHER)
        self.assertEqual(self.room.walls(), {"wall": SHAPE})


if __name__ == "__main__":
    unittest.main()
