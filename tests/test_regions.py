"""Points 11 and 12: places, free places, regions, obstacles and the frame."""

import random
import unittest
from fractions import Fraction

from helpers import FAR, POINT, SQUARE, a_room, box, exact, halves, has, is_free_place, is_proper, regions_of, spot
from helpers import some_room

from roomyway import regions as module
from roomyway.errors import UnknownThing
from roomyway.regions import is_free, regions
from roomyway.rooms import Room

HAIR = Fraction(1, 10 ** 12)


class Frame(unittest.TestCase):

    def test_the_frame_of_a_point(self):
        self.assertEqual(regions(a_room(20, 10, body=(POINT,)), "mover"), [
            box(-4000, -4000, 0, 4010),
            box(20, -4000, 4020, 4010),
            box(-4000, -4000, 4020, 0),
            box(-4000, 10, 4020, 4010),
        ])

    def test_the_frame_of_a_square(self):
        self.assertEqual(regions(a_room(20, 10, body=(box(-1, 0, 3, 2),)), "mover"), [
            box(-4003, -4002, 1, 4010),
            box(17, -4002, 4021, 4010),
            box(-4003, -4002, 4021, 0),
            box(-4003, 8, 4021, 4010),
        ])

    def test_the_frame_of_a_triangle(self):
        self.assertEqual(regions(a_room(5, 6, body=(((0, 0), (2, 1), (0, 3)),)), "mover")[0], (
            (-4002, -4001), (-4000, -4003), (0, -4003), (0, 4006), (-4000, 4006), (-4002, 4005)
        ))


class Order(unittest.TestCase):

    def test_walls_then_shut_doors_by_names(self):
        room = Room(20, 10)
        room.hang("c", (((3, 3),),))
        room.build("b", (((2, 2),), ((1, 9),)))
        room.hang("aa", (((5, 5),), ((4, 4),)))
        room.build("d", (((6, 6),),))
        room.build("ab", (((7, 7),),))
        room.add_body("mover", (POINT,))
        expected = [((7, 7),), ((2, 2),), ((1, 9),), ((6, 6),), ((5, 5),), ((4, 4),), ((3, 3),)]
        self.assertEqual(regions(room, "mover")[4:], expected)
        room.open_door("aa")
        self.assertEqual(regions(room, "mover")[4:], expected[:4] + expected[6:])
        room.open_door("c")
        self.assertEqual(regions(room, "mover")[4:], expected[:4])
        room.shut_door("aa")
        self.assertEqual(regions(room, "mover")[4:], expected[:6])

    def test_each_piece_of_the_body_in_turn(self):
        room = a_room(20, 10, walls=[(box(5, 5, 6, 6),)], doors=[(((2, 3),),)], body=(POINT, SQUARE, ((-1, 0),)))
        first, second, third = regions(room, "mover")[:6], regions(room, "mover")[6:12], regions(room, "mover")[12:]
        self.assertEqual(first[4:], [box(5, 5, 6, 6), ((2, 3),)])
        self.assertEqual(second[4:], [box(4, 4, 6, 6), box(1, 2, 2, 3)])
        self.assertEqual(third[4:], [box(6, 5, 7, 6), ((3, 3),)])
        self.assertEqual(first[0], box(-4000, -4000, 0, 4010))
        self.assertEqual(second[0], box(-4001, -4001, 0, 4010))
        self.assertEqual(third[:2], [box(-3999, -4000, 1, 4010), box(21, -4000, 4021, 4010)])

    def test_equal_regions_are_all_there(self):
        room = a_room(20, 10, walls=[(SQUARE, SQUARE), (SQUARE,)], body=(POINT, POINT))
        self.assertEqual(regions(room, "mover")[4:7], [SQUARE] * 3)
        self.assertEqual(regions(room, "mover")[7:], regions(room, "mover")[:7])

    def test_sums(self):
        room = a_room(20, 10, walls=[(((5, 5), (9, 5), (7, 8)),), (((3, 3), (4, 5)),)], body=(((0, 0), (2, 1)),))
        self.assertEqual(regions(room, "mover")[4:], [
            ((3, 4), (7, 4), (9, 5), (7, 8), (5, 7)),
            ((1, 2), (3, 3), (4, 5), (2, 4)),
        ])

    def test_all_regions_are_right(self):
        chance = random.Random(12)
        for _ in range(60):
            room = some_room(chance)
            found = regions(room, "mover")
            self.assertIs(type(found), list)
            self.assertTrue(all(is_proper(region) for region in found))
            self.assertEqual(found, regions_of(room, "mover"))

    def test_the_most_regions(self):
        many = [(((3, 3),), ((4, 4),), ((5, 5),))] * 12
        self.assertEqual(len(regions(a_room(20, 10, walls=many, body=(POINT,) * 3), "mover")), 120)

    def test_unknown_bodies(self):
        room = a_room(20, 10, walls=[(SQUARE,)])
        for name in ("a", "movers", "b"):
            with self.assertRaises(UnknownThing):
                regions(room, name)
        room.drop_body("mover")
        with self.assertRaises(UnknownThing):
            regions(room, "mover")

    def test_the_list_belongs_to_the_caller(self):
        room = a_room(20, 10, walls=[(box(5, 5, 6, 6),)])
        found = regions(room, "mover")
        before = list(found)
        found.clear()
        self.assertEqual(regions(room, "mover"), before)
        self.assertFalse(is_free(room, "mover", spot(5, 5)))

    def test_the_room_is_not_changed(self):
        room = a_room(20, 10, walls=[(SQUARE,)], doors=[(box(5, 5, 6, 6),)])
        before = room.walls(), room.doors(), room.bodies(), room.size()
        regions(room, "mover")
        is_free(room, "mover", spot(3, 3))
        self.assertEqual((room.walls(), room.doors(), room.bodies(), room.size()), before)

    def test_each_is_defined_in_its_file(self):
        self.assertEqual(regions.__module__, "roomyway.regions")
        self.assertEqual(module.is_free.__module__, "roomyway.regions")


class FreePlaces(unittest.TestCase):

    def check(self, room, x, y, expected):
        place = spot(x, y)
        with self.subTest(x=x, y=y):
            self.assertIs(is_free(room, "mover", place), expected)
            self.assertEqual(is_free_place(room, "mover", place), expected)

    def test_touching_the_frame_is_not_free(self):
        room = a_room(20, 10)
        for x, y in ((0, 5), (19, 5), (5, 0), (5, 9), (0, 0), (19, 9), (0, 9)):
            self.check(room, x, y, False)
        for x, y in ((HAIR, 5), (19 - HAIR, 5), (5, HAIR), (5, 9 - HAIR), (HAIR, HAIR), (19 - HAIR, 9 - HAIR)):
            self.check(room, x, y, True)
        for x, y in ((-HAIR, 5), (19 + HAIR, 5), (5, -HAIR), (5, 9 + HAIR), (20, 5), (5, 10)):
            self.check(room, x, y, False)

    def test_beyond_the_frame(self):
        room = a_room(20, 10)
        for far in (-3000, 3000, -4000, 4000, -4001, 4001, 4020, 4021, 4022, -4002, 5000, -5000, -10 ** 9, 10 ** 30):
            self.check(room, far, 5, False)
            self.check(room, 5, far, False)
            self.check(room, far, far, False)
            self.check(room, far + Fraction(1, 2), -far, False)

    def test_touching_a_wall_is_not_free(self):
        room = a_room(20, 10, walls=[(box(5, 4, 7, 6),)])
        for x, y in ((4, 5), (7, 5), (5, 3), (5, 6), (4, 3), (7, 6), (7, 3), (4, 6), (5, 5), ("11/2", "9/2")):
            self.check(room, x, y, False)
        for x, y in ((4 - HAIR, 5), (7 + HAIR, 5), (5, 3 - HAIR), (5, 6 + HAIR), (4 - HAIR, 3), (7 + HAIR, 6)):
            self.check(room, x, y, True)

    def test_slanted_sides(self):
        room = a_room(20, 10, walls=[(((5, 2), (9, 5), (5, 8)),)], body=(POINT,))
        self.check(room, 7, "7/2", False)
        self.check(room, 7, Fraction(7, 2) - HAIR, True)
        self.check(room, 9, 5, False)
        self.check(room, 9 + HAIR, 5, True)

    def test_thin_walls_and_bodies(self):
        room = a_room(20, 10, walls=[(((5, 2), (9, 4)),), (((12, 3),),)], body=(POINT,))
        self.check(room, 7, 3, False)
        self.check(room, 7, 3 + HAIR, True)
        self.check(room, 12, 3, False)
        self.check(room, 12, 3 - HAIR, True)
        room = a_room(20, 10, walls=[(((12, 3),),)], body=(((0, 0), (2, 2)),))
        self.check(room, 11, 2, False)
        self.check(room, 10, 1, False)
        self.check(room, 10 - HAIR, 1 - HAIR, True)
        self.check(room, 11, 2 + HAIR, True)

    def test_doors(self):
        room = a_room(20, 10, doors=[(box(5, 0, 6, 10),)])
        self.check(room, 5, 5, False)
        room.open_door("a")
        self.check(room, 5, 5, True)
        room.shut_door("a")
        self.check(room, 5, 5, False)
        room.drop("a")
        self.check(room, 5, 5, True)

    def test_walls_beyond_the_room(self):
        room = a_room(20, 10, walls=[(box(-1000, -1000, 3, 2000),), (box(30, 0, 40, 10),)], body=(POINT,))
        self.check(room, 3, 5, False)
        self.check(room, 3 + HAIR, 5, True)
        self.check(room, 35, 5, False)

    def test_all_pieces_of_a_body(self):
        shape = (SQUARE, box(3, 0, 4, 1), ((0, 4),))
        room = a_room(20, 10, walls=[(box(5, 4, 7, 6),)], body=shape)
        for place in halves(room):
            alone = [is_free(a_room(20, 10, [(box(5, 4, 7, 6),)], body=(piece,)), "mover", place) for piece in shape]
            self.assertIs(is_free(room, "mover", place), all(alone), place)
        # The wall stands between two pieces of the body.
        room = a_room(20, 10, walls=[(box(7, 4, 8, 6),)], body=(SQUARE, box(3, 0, 4, 1)))
        self.check(room, "11/2", 5, True)

    def test_a_body_that_is_too_large(self):
        for body in ((box(0, 0, 20, 1),), (box(0, 0, 1, 10),), (((0, 0),), ((20, 3),))):
            room = a_room(20, 10, body=body)
            self.assertFalse(any(is_free(room, "mover", place) for place in halves(room)))
        room = a_room(20, 10, body=(box(0, 0, 19, 9),))
        self.check(room, "1/2", "1/2", True)

    def test_a_body_beside_its_place(self):
        room = a_room(20, 10, body=(box(100, -50, 101, -49),))
        self.check(room, -95, 55, True)
        self.check(room, 5, 5, False)

    def test_unknown_bodies(self):
        for place in (spot(5, 5), spot(-5, 5)):
            with self.assertRaises(UnknownThing):
                is_free(a_room(20, 10), "body", place)

    def test_a_place_is_free_exactly_if_it_is_in_no_region(self):
        chance = random.Random(11)
        for _ in range(40):
            room = some_room(chance)
            width, height = room.size()
            around = regions(room, "mover")
            for place in chance.sample(halves(room), 20):
                expected = is_free_place(room, "mover", place)
                self.assertIs(is_free(room, "mover", place), expected)
                x, y = exact(place)
                moved = [(x + dx, y + dy) for piece in room.bodies()["mover"] for dx, dy in piece]
                self.assertTrue(all(-FAR <= px <= width + FAR and -FAR <= py <= height + FAR for px, py in moved))
                self.assertEqual(not any(has(region, (x, y)) for region in around), expected)

    def test_the_same_again(self):
        room = a_room(9, 9, walls=[(box(2, 2, 4, 5),)])
        before = [is_free(room, "mover", place) for place in halves(room)]
        after = [is_free(room, "mover", place) for place in halves(room)[::-1]]
        self.assertEqual(after[::-1], before)


if __name__ == "__main__":
    unittest.main()
