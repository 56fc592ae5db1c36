"""Points 13 and 14: free ways, lines for them, and the judges of both."""

import random
import unittest
from fractions import Fraction
from math import gcd

from cases import AROUND, BLOCKED, CASES, CORNERS, LEFT, RIGHT, SHUT, TWO_WIDE, crowded
from helpers import POINT, SQUARE, a_room, box, changes, halves, is_free_way, is_line, moved_place, regions_of
from helpers import some_free_places, some_room, spot, stretches_of, turned

from roomyway import ways
from roomyway.errors import NotFree, TooLarge, UnknownThing
from roomyway.regions import regions
from roomyway.ways import find_way, lines_of, takes_lines, takes_way

SHUT_IN = spot(2, 5)


def filled(parts, pieces):
    """A room with that many pieces of walls, for a body of that many pieces, and with two free places."""
    shapes = [[] for _ in range(12)]
    for k in range(pieces):
        shapes[k % 12].append(((k % 12, 3 + k // 12),))
    walls = [tuple(shape) for shape in shapes if shape]
    return a_room(20, 10, walls=walls, body=tuple(((k, 0),) for k in range(parts)))


class Case(unittest.TestCase):

    def check_way(self, room, start, goal, way):
        """Check that a way is one, and that its lines are lines, by the words of the document."""
        self.assertIs(type(way), tuple)
        for p in way:
            for value in p:
                self.assertEqual([type(part) for part in value], [int, int])
                self.assertTrue(value[1] >= 1 and gcd(*value) == 1)
        self.assertTrue(is_free_way(room, "mover", start, goal, way), way)
        self.assertIs(takes_way(room, "mover", start, goal, way), True)
        lines = lines_of(room, "mover", way)
        around = regions_of(room, "mover")
        self.assertEqual(len(lines), len(stretches_of(way)))
        for row, (a, b) in zip(lines, stretches_of(way)):
            self.assertEqual(len(row), len(around))
            self.assertTrue(all(is_line(line, a, b, region) for line, region in zip(row, around)))
        self.assertIs(takes_lines(room, "mover", way, lines), True)


class Finding(Case):

    def test_each_case(self):
        for name, (room, start, goal, is_there) in CASES.items():
            with self.subTest(name=name):
                way = find_way(room, "mover", start, goal)
                self.assertEqual(way is not None, is_there)
                if is_there:
                    self.check_way(room, start, goal, way)

    def test_each_case_backwards(self):
        for name, (room, start, goal, is_there) in CASES.items():
            with self.subTest(name=name):
                way = find_way(room, "mover", goal, start)
                self.assertEqual(way is not None, is_there)
                if is_there:
                    self.check_way(room, goal, start, way)

    def test_however_the_room_lies(self):
        for name, (room, start, goal, is_there) in CASES.items():
            for kind, change in changes(room).items():
                with self.subTest(name=name, kind=kind):
                    other = turned(room, change)
                    ends = moved_place(change, start), moved_place(change, goal)
                    way = find_way(other, "mover", *ends)
                    self.assertEqual(way is not None, is_there)
                    if is_there:
                        self.check_way(other, *ends, way)

    def test_rooms_by_chance(self):
        chance = random.Random(14)
        told = {True: 0, False: 0}
        for _ in range(150):
            room = some_room(chance)
            free = some_free_places(chance, room)
            if len(regions(room, "mover")) <= 60:
                for start, goal in zip(free, free[1:]):
                    way = find_way(room, "mover", start, goal)
                    told[way is not None] += 1
                    if way is not None:
                        self.check_way(room, start, goal, way)
        self.assertGreater(min(told.values()), 10)

    def test_a_place_with_itself(self):
        for place in (spot(1, 1), spot("1/3", "22/7")):
            self.check_way(AROUND, place, place, find_way(AROUND, "mover", place, place))

    def test_places_with_large_fractions(self):
        start = spot(Fraction(10 ** 15 + 7, 10 ** 15), Fraction(5 * 10 ** 18 + 1, 10 ** 18))
        goal = spot(Fraction(17 * 10 ** 16 + 3, 10 ** 16), Fraction(1, 10 ** 12))
        self.check_way(AROUND, start, goal, find_way(AROUND, "mover", start, goal))

    def test_gaps_become_narrower(self):
        # Two points of walls, one above the other, leave a body of height 1 through as soon as they are 2 apart.
        for gap, is_there in ((1, False), (2, True), (3, True)):
            walls = [(((8, 0), (8, 4)),), (((8, 4 + gap), (8, 10)),)]
            way = find_way(a_room(20, 10, walls=walls), "mover", spot(2, 1), spot(12, 8))
            self.assertEqual(way is not None, is_there)

    def test_doors(self):
        room = SHUT.copy()
        self.assertIsNone(find_way(room, "mover", LEFT, RIGHT))
        room.open_door("b")
        self.check_way(room, LEFT, RIGHT, find_way(room, "mover", LEFT, RIGHT))
        room.shut_door("b")
        self.assertIsNone(find_way(room, "mover", LEFT, RIGHT))
        room.drop("b")
        self.check_way(room, LEFT, RIGHT, find_way(room, "mover", LEFT, RIGHT))

    def test_the_same_again(self):
        for name, (room, start, goal, _) in CASES.items():
            with self.subTest(name=name):
                before = room.walls(), room.doors(), room.bodies()
                first = find_way(room, "mover", start, goal)
                self.assertEqual(find_way(room, "mover", start, goal), first)
                self.assertEqual(find_way(room.copy(), "mover", start, goal), first)
                self.assertEqual((room.walls(), room.doors(), room.bodies()), before)

    def test_each_is_defined_in_its_file(self):
        for name in ("find_way", "takes_way", "lines_of", "takes_lines"):
            self.assertEqual(getattr(ways, name).__module__, "roomyway.ways")


class Errors(Case):

    def test_unknown_bodies(self):
        way = (LEFT, RIGHT)
        lines = lines_of(a_room(20, 10), "mover", way)
        for name in ("a", "movers", "b"):
            for call, arguments in (
                (find_way, (LEFT, RIGHT)), (find_way, (spot(0, 0), spot(-1, 0))), (lines_of, (way,)),
                (takes_way, (LEFT, RIGHT, way)), (takes_way, (LEFT, RIGHT, ())), (takes_lines, (way, lines)),
                (takes_lines, (way, [])),
            ):
                with self.assertRaises(UnknownThing):
                    call(a_room(20, 10, walls=[(SQUARE,)]), name, *arguments)

    def test_places_that_are_not_free(self):
        for place in (spot(0, 5), spot(8, 5), spot(7, 5), spot(9, 5), spot(-5, 5), spot(19, 5), spot(10 ** 9, 5)):
            for ends in ((place, RIGHT), (LEFT, place), (place, place)):
                with self.assertRaises(NotFree):
                    find_way(AROUND, "mover", *ends)

    def test_the_most_regions(self):
        for parts, pieces in ((3, 16), (2, 26), (1, 36)):
            room = filled(parts, pieces)
            self.assertEqual(len(regions(room, "mover")), parts * (4 + pieces))
            ends = spot("1/2", 1), spot("31/2", 8)
            self.check_way(room, *ends, find_way(room, "mover", *ends))
        self.assertEqual(len(regions(crowded(16), "mover")), 60)

    def test_too_many_regions(self):
        for parts, pieces in ((2, 27), (3, 17), (3, 36)):
            room = filled(parts, pieces)
            for ends in ((spot("1/2", 1), spot("31/2", 8)), (spot("1/2", 1), spot("1/2", 1))):
                with self.assertRaises(TooLarge):
                    find_way(room, "mover", *ends)

    def test_open_doors_do_not_count(self):
        room = filled(3, 16)
        room.drop("a")
        room.hang("a", (SQUARE, SQUARE, SQUARE))
        with self.assertRaises(TooLarge):
            find_way(room, "mover", spot("1/2", 8), spot("1/2", 9))
        room.open_door("a")
        self.assertIsNotNone(find_way(room, "mover", spot("1/2", 8), spot("1/2", 9)))

    def test_the_order_of_errors(self):
        room = filled(3, 17)
        with self.assertRaises(UnknownThing):
            find_way(room, "body", spot(-1, 1), spot(1, 1))
        for ends in ((spot(-1, 1), spot("1/2", 1)), (spot("1/2", 1), spot(0, 0))):
            with self.assertRaises(NotFree):
                find_way(room, "mover", *ends)

    def test_judges_take_any_number_of_regions(self):
        room = filled(3, 36)
        way = (spot("1/2", 1), spot("1/2", 2), spot("31/2", 2))
        self.check_way(room, way[0], way[2], way)


class JudgeOfWays(Case):

    def check(self, room, start, goal, way, expected):
        with self.subTest(way=way):
            self.assertIs(takes_way(room, "mover", start, goal, way), expected)
            self.assertEqual(is_free_way(room, "mover", start, goal, way), expected)

    def test_ways(self):
        way = (LEFT, spot(8, "15/2"), spot(9, 8), RIGHT)
        self.check(AROUND, LEFT, RIGHT, way, True)
        self.check(AROUND, RIGHT, LEFT, way[::-1], True)
        self.check(AROUND, LEFT, RIGHT, (LEFT, LEFT) + way[1:] + (RIGHT,), True)
        self.check(AROUND, LEFT, RIGHT, way[:2] + (LEFT,) + way, True)
        self.check(AROUND, LEFT, LEFT, (LEFT,), True)
        self.check(AROUND, LEFT, LEFT, (LEFT, LEFT), True)
        self.check(AROUND, LEFT, LEFT, way + way[::-1], True)

    def test_other_ends(self):
        way = (LEFT, spot(8, "15/2"), spot(9, 8), RIGHT)
        self.check(AROUND, LEFT, RIGHT, way[:-1], False)
        self.check(AROUND, LEFT, RIGHT, way[1:], False)
        self.check(AROUND, LEFT, RIGHT, way[::-1], False)
        self.check(AROUND, RIGHT, LEFT, way, False)
        self.check(AROUND, LEFT, spot(17, 5), way, False)
        self.check(AROUND, LEFT, LEFT, (RIGHT,), False)
        self.check(AROUND, LEFT, RIGHT, (LEFT,), False)
        self.check(AROUND, LEFT, RIGHT, (RIGHT,), False)

    def test_no_points(self):
        self.check(AROUND, LEFT, RIGHT, (), False)
        self.check(AROUND, LEFT, LEFT, (), False)

    def test_stretches_that_touch(self):
        self.check(AROUND, LEFT, RIGHT, (LEFT, RIGHT), False)
        # The region of the wall goes from (7, -6) to (9, 7).
        self.check(AROUND, LEFT, RIGHT, (LEFT, spot(2, 7), spot(17, 7), RIGHT), False)
        self.check(AROUND, LEFT, RIGHT, (LEFT, spot(2, "7001/1000"), spot(17, "7001/1000"), RIGHT), True)
        self.check(AROUND, LEFT, RIGHT, (LEFT, spot(6, 8), spot(8, 6), spot(9, 8), RIGHT), False)
        self.check(AROUND, LEFT, RIGHT, (LEFT, spot(5, 9), RIGHT), False)
        self.check(AROUND, LEFT, LEFT, (LEFT, spot(7, 5), LEFT), False)
        self.check(AROUND, LEFT, LEFT, (LEFT, spot(0, 5), LEFT), False)
        self.check(AROUND, LEFT, LEFT, (LEFT, spot(-5, 5), LEFT), False)
        self.check(AROUND, LEFT, LEFT, (LEFT, spot(2, 9), LEFT), False)

    def test_through_a_point_at_which_regions_touch(self):
        way = (spot(5, 9), spot(10, 4), spot(16, "1/2"))
        self.check(CORNERS, way[0], way[2], way, False)
        way = (spot(6, 8), spot(10, 4), spot(13, 1))
        self.check(CORNERS, way[0], way[2], way, False)

    def test_places_that_are_not_free(self):
        for place in (spot(0, 5), spot(8, 5), spot(7, 5), spot(-5, 5), spot(10 ** 9, 5), spot(5000, 5000)):
            self.check(AROUND, place, place, (place,), False)
            self.check(AROUND, LEFT, place, (LEFT, place), False)
            self.check(AROUND, place, LEFT, (place, LEFT), False)
        far = (spot(5000, 5000), spot(5000, 6000))
        self.check(AROUND, *far, far, False)

    def test_only_one_stretch_touches(self):
        good = (LEFT, spot(3, 3), spot(5, 1), spot(2, 8), spot(6, 8))
        self.check(AROUND, good[0], good[-1], good, True)
        for k in range(1, len(good)):
            way = good[:k] + (spot(7, 2),) + good[k:]
            self.check(AROUND, good[0], good[-1], way, False)

    def test_each_region_matters(self):
        # The way goes from 5 to 8: past the first wall, and before the others and the door.
        walls = [(box(3, 4, 4, 5), ((15, 5),)), (((9, 4), (9, 6)),)]
        way = (spot(5, 5), spot(8, 5))
        for body, expected in (
            ((POINT,), True), ((((1, 0),),), False), ((((-1, 0),),), False), ((((4, 0),),), False),
            ((((7, 0),),), False), ((((2, 1),),), False), ((((2, 2),),), True), ((((11, 0),),), True),
            ((POINT, ((1, 0),)), False), ((((1, 0),), POINT), False), ((POINT, ((11, 0),)), True),
            ((POINT, ((11, 0),), ((12, 0),)), False), ((POINT, ((2, 2),), ((-2, -1),)), False),
            ((POINT, ((2, 2),), ((-2, -2),)), True),
        ):
            self.check(a_room(20, 10, walls, [(((12, 5),),)], body), *way, way, expected)

    def test_ways_by_chance(self):
        chance = random.Random(13)
        told = {True: 0, False: 0}
        for _ in range(200):
            room = some_room(chance)
            free = some_free_places(chance, room) or halves(room)
            way = tuple(chance.choice(free) for _ in range(chance.randint(1, 3)))
            expected = is_free_way(room, "mover", way[0], way[-1], way)
            told[expected] += 1
            self.assertIs(takes_way(room, "mover", way[0], way[-1], way), expected)
        self.assertGreater(min(told.values()), 10)


class JudgeOfLines(Case):

    def setUp(self):
        self.room = a_room(20, 10, walls=[(box(8, -5, 9, 7),)], doors=[(((3, 3),),)], body=(SQUARE, ((0, 1),)))
        self.way = (LEFT, spot(8, "15/2"), spot(9, 8), RIGHT)
        self.lines = lines_of(self.room, "mover", self.way)

    def check(self, way, lines, expected):
        before = [list(row) for row in lines]
        self.assertIs(takes_lines(self.room, "mover", way, lines), expected)
        self.assertEqual(lines, before)

    def test_lines(self):
        self.assertIs(type(self.lines), list)
        self.assertEqual([type(row) for row in self.lines], [list] * 3)
        self.assertEqual([len(row) for row in self.lines], [12] * 3)
        self.check(self.way, self.lines, True)

    def test_lines_of_a_single_point(self):
        lines = lines_of(self.room, "mover", (LEFT,))
        self.assertEqual([len(row) for row in lines], [12])
        self.check((LEFT,), lines, True)
        self.check((LEFT, LEFT), lines, True)
        self.check((LEFT,), lines * 2, False)
        self.check((LEFT,), [], False)

    def test_too_short_or_too_long(self):
        self.check(self.way, [], False)
        self.check(self.way, self.lines[:-1], False)
        self.check(self.way, self.lines[1:], False)
        self.check(self.way, self.lines + self.lines[-1:], False)
        self.check(self.way, self.lines + [[]], False)
        for k in range(3):
            for row in (self.lines[k][:-1], self.lines[k][1:], self.lines[k] + self.lines[k][-1:], []):
                self.check(self.way, self.lines[:k] + [row] + self.lines[k + 1:], False)
            self.check(self.way, self.lines[:k] + self.lines[k + 1:], False)

    def test_lines_that_do_not_lie_between(self):
        for k in range(3):
            for j in range(12):
                (u, v), (n, d) = self.lines[k][j]
                for line in (((0, 0), (n, d)), ((-u, -v), (-n, d)), ((-u, -v), (n, d)), ((u, v), (10 ** 9, 1)),
                             ((u, v), (-10 ** 9, 1)), ((0, 0), (0, 1))):
                    lines = [list(row) for row in self.lines]
                    lines[k][j] = line
                    self.check(self.way, lines, False)

    def test_lines_at_the_very_bounds(self):
        # The stretch keeps above 5, the region of the lower piece of the frame below 0.
        room = a_room(20, 10, body=(POINT,))
        way = (spot(5, 5), spot(8, 6))
        lines = lines_of(room, "mover", way)
        for value, expected in ((0, False), (5, False), (-1, False), (6, False)):
            lines[0][2] = ((0, 1), (value, 1))
            self.assertIs(takes_lines(room, "mover", way, lines), expected)
        for value in ((1, 10 ** 9), (5 * 10 ** 9 - 1, 10 ** 9), (5, 2)):
            lines[0][2] = ((0, 1), value)
            self.assertIs(takes_lines(room, "mover", way, lines), True)

    def test_lines_in_another_order(self):
        lines = [list(row) for row in self.lines]
        lines[0][0], lines[0][1] = lines[0][1], lines[0][0]
        self.check(self.way, lines, False)
        self.check(self.way, self.lines[::-1], False)

    def test_places_that_are_not_free(self):
        far = (spot(6000, 6000),)
        lines = [[((1, 1), (11000, 1))] * 12]
        around = regions_of(self.room, "mover")
        self.assertTrue(all(is_line(line, far[0], far[0], region) for line, region in zip(lines[0], around)))
        self.check(far, lines, False)
        self.check(far * 3, lines * 2, False)

    def test_no_points(self):
        self.check((), [], False)
        self.check((), self.lines, False)
        self.check((), self.lines[:1], False)

    def test_another_way(self):
        self.check((LEFT, RIGHT), self.lines[:1], False)
        self.check((LEFT, spot(8, "15/2"), spot(8, 6), RIGHT), self.lines, False)
        self.check(self.way[::-1], self.lines[::-1], True)

    def test_lines_belong_to_the_caller(self):
        lines = lines_of(self.room, "mover", self.way)
        lines[0].clear()
        lines.pop()
        self.assertEqual(lines_of(self.room, "mover", self.way), self.lines)


class Rooms(Case):

    def test_a_way_that_was_free(self):
        room = TWO_WIDE.copy()
        way = find_way(room, "mover", LEFT, RIGHT)
        lines = lines_of(room, "mover", way)
        room.hang("door", (box(8, 0, 9, 10),))
        self.assertIs(takes_way(room, "mover", LEFT, RIGHT, way), False)
        self.assertIs(takes_lines(room, "mover", way, lines), False)
        room.open_door("door")
        self.assertIs(takes_way(room, "mover", LEFT, RIGHT, way), True)
        self.assertIs(takes_lines(room, "mover", way, lines), True)
        self.assertIs(takes_way(BLOCKED, "mover", LEFT, RIGHT, way), False)


if __name__ == "__main__":
    unittest.main()
