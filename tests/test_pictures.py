"""Point 30: pictures."""

import random
import unittest

from cases import AROUND, SHUT, nested_rings
from helpers import POINT, a_room, box, is_free_place, is_loose_place, some_room, spot
from test_rooms import told

from roomyway import pictures
from roomyway.errors import InvalidArgument, TooLarge, UnknownThing
from roomyway.pictures import picture


def slow_picture(room, step):
    """The picture, by the words of points 11, 17 and 30."""
    width, height = room.size()
    lines = ""
    y = max(k for k in range(0, height, step))
    while y >= 0:
        x = 0
        while x < width:
            is_free = is_free_place(room, "mover", spot(x, y))
            lines += "." if is_free else "o" if is_loose_place(room, "mover", spot(x, y)) else "#"
            x += step
        lines += "\n"
        y -= step
    return lines


class Pictures(unittest.TestCase):

    def check(self, room, step, expected=None):
        with self.subTest(size=room.size(), step=step):
            before = told(room)
            found = picture(room, "mover", step)
            self.assertIs(type(found), str)
            self.assertEqual(found, slow_picture(room, step))
            if expected is not None:
                self.assertEqual(found, expected)
            self.assertEqual(told(room), before)

    def test_in_full(self):
        room = a_room(8, 5, walls=[(box(4, 0, 5, 2),)])
        self.check(room, 1, "oooooooo\no......o\no..ooo.o\no..o#o.o\noooo#ooo\n")

    def test_a_point_in_a_room(self):
        room = a_room(5, 4, walls=[(box(2, 1, 4, 3),)], body=(POINT,))
        self.check(room, 1, "o.ooo\no.o#o\no.ooo\nooooo\n")
        room.drop("a")
        room.build("a", (((2, 1), (4, 3)),))
        # A wall without an inside may be slid through.
        self.check(room, 1, "o...o\no..o.\no.o..\nooooo\n")

    def test_each_step(self):
        large = a_room(19, 21, body=(box(-2, -3, 1, 1),))
        for room in (AROUND, SHUT, nested_rings(6), a_room(20, 20, body=(POINT,)), large):
            for step in (1, 2, 3, 4, 5, 7, 9, 10, 19, 20, 21, 99, 100):
                self.check(room, step)

    def test_the_greatest_multiples_below_the_sizes(self):
        for width, height, step, rows, columns in (
            (20, 10, 5, 2, 4), (21, 11, 5, 3, 5), (19, 9, 5, 2, 4), (20, 10, 10, 1, 2), (2, 2, 1, 2, 2), (2, 2, 2, 1, 1),
            (1000, 1000, 50, 20, 20), (1000, 1000, 100, 10, 10), (1000, 2, 100, 1, 10), (20, 20, 1, 20, 20),
        ):
            room = a_room(width, height)
            lines = picture(room, "mover", step).split("\n")
            self.assertEqual((len(lines), lines[-1]), (rows + 1, ""))
            self.assertEqual({len(line) for line in lines[:-1]}, {columns})
            self.check(room, step)

    def test_doors(self):
        room = SHUT.copy()
        self.check(room, 1)
        shut = picture(room, "mover", 1)
        room.open_door("b")
        self.check(room, 1)
        self.assertNotEqual(picture(room, "mover", 1), shut)
        room.shut_door("b")
        self.assertEqual(picture(room, "mover", 1), shut)

    def test_bodies_that_do_not_fit(self):
        room = a_room(6, 4, body=(box(0, 0, 7, 1),))
        self.check(room, 1, "######\n" * 4)
        room = a_room(6, 4, body=(box(0, 0, 6, 4),))
        self.check(room, 1, "######\n" * 3 + "o#####\n")
        room = a_room(6, 4, body=(box(-1, -1, 0, 0),))
        self.check(room, 1, "#o....\n" * 2 + "#ooooo\n" + "######\n")

    def test_several_bodies(self):
        room = a_room(8, 5)
        room.add_body("dot", (POINT,))
        self.assertEqual(picture(room, "dot", 1), "o.......\n" * 4 + "oooooooo\n")
        self.check(room, 1, "oooooooo\n" + "o......o\n" * 3 + "oooooooo\n")

    def test_rooms_by_chance(self):
        chance = random.Random(30)
        for _ in range(60):
            room = some_room(chance)
            self.check(room, 1)
            self.check(room, chance.randint(1, 5))

    def test_steps_out_of_range(self):
        for step in (0, -1, 101, 1000, 10 ** 20):
            with self.assertRaises(InvalidArgument):
                picture(AROUND, "mover", step)
            with self.assertRaises(InvalidArgument):
                picture(a_room(1000, 1000), "mover", step)
        self.check(AROUND, 100)

    def test_too_many_characters(self):
        for width, height, step in (
            (20, 21, 1), (21, 20, 1), (401, 2, 1), (201, 2, 1), (1000, 1000, 49), (1000, 1000, 1), (2, 1000, 2), (801, 2, 2),
            (800, 2, 2),
        ):
            room = a_room(width, height)
            with self.subTest(size=room.size(), step=step):
                rows, columns = (height + step - 1) // step, (width + step - 1) // step
                if rows * columns > 400:
                    with self.assertRaises(TooLarge):
                        picture(room, "mover", step)
                else:
                    self.check(room, step)
        self.assertEqual(len(picture(a_room(200, 2), "mover", 1)), 402)
        self.assertEqual(len(picture(a_room(2, 200), "mover", 1)), 600)

    def test_the_order_of_errors(self):
        for step in (0, 1, 101):
            for name in ("a", "movers", ""):
                with self.assertRaises(UnknownThing):
                    picture(a_room(1000, 1000), name, step)
        with self.assertRaises(InvalidArgument):
            picture(a_room(1000, 1000), "mover", 0)
        with self.assertRaises(TooLarge):
            picture(a_room(1000, 1000), "mover", 1)

    def test_each_is_defined_in_its_file(self):
        self.assertEqual(pictures.picture.__module__, "roomyway.pictures")


if __name__ == "__main__":
    unittest.main()
