"""Points 17, 18 and 19: loose places, lengths, corners in sight, shortest sliding ways and heights."""

import random
import unittest
from fractions import Fraction
from math import gcd

from cases import ALONG, AROUND, BLOCKED, CASES, CORNERS, DIAGONAL, LEFT, LINE, POCKET, RIGHT, ring_of_boxes
from helpers import POINT, SQUARE, a_room, box, changes, distances, drive, halves, is_free_place, is_loose_place
from helpers import is_slide, moved_place, number, regions_of, seen_from, sights_of, some_room, spot, turned

from roomyway import sliding
from roomyway.errors import NotFree, TooLarge, UnknownThing
from roomyway.regions import regions
from roomyway.sliding import in_sight, is_loose, length, slide, takes_slide

HAIR = Fraction(1, 10 ** 12)
FEW = {name: case for name, case in CASES.items() if len(regions(case[0], "mover")) <= 30}


def some_loose_places(chance, room):
    found = [place for place in chance.sample(halves(room), 16) if is_loose_place(room, "mover", place)]
    corners = [spot(x, y) for region in regions_of(room, "mover")[4:] for x, y in region]
    touching = [place for place in corners if is_loose_place(room, "mover", place)]
    return found[:2] + touching[:1]


class LoosePlaces(unittest.TestCase):

    def check(self, room, x, y, expected):
        place = spot(x, y)
        with self.subTest(x=x, y=y):
            self.assertIs(is_loose(room, "mover", place), expected)
            self.assertEqual(is_loose_place(room, "mover", place), expected)

    def test_touching_the_frame_is_loose(self):
        room = a_room(20, 10)
        for x, y in ((0, 5), (19, 5), (5, 0), (5, 9), (0, 0), (19, 9), (0, 9), (5, 5), ("1/3", "26/3")):
            self.check(room, x, y, True)
        for x, y in ((-HAIR, 5), (19 + HAIR, 5), (5, -HAIR), (5, 9 + HAIR), (20, 5), (5, 10), (-4002, 5), (10 ** 9, 5)):
            self.check(room, x, y, False)

    def test_beyond_the_frame(self):
        room = a_room(20, 10)
        for far in (-4001, 4001, 4020, 4021, -4002, 4022, 5000, -5000, 10 ** 30):
            self.check(room, far, 5, False)
            self.check(room, 5, far, False)
            self.check(room, far, far, False)

    def test_touching_a_wall_is_loose(self):
        room = a_room(20, 10, walls=[(box(5, 4, 7, 6),)])
        for x, y in ((4, 5), (7, 5), (5, 3), (5, 6), (4, 3), (7, 6), (7, 3), (4, 6)):
            self.check(room, x, y, True)
            self.assertFalse(is_free_place(room, "mover", spot(x, y)))
        for x, y in ((4 + HAIR, 5), (7 - HAIR, 5), (5, 3 + HAIR), (5, 6 - HAIR), (5, 5), (4 + HAIR, 3 + HAIR)):
            self.check(room, x, y, False)

    def test_thin_walls_have_no_inside(self):
        room = a_room(20, 10, walls=[(((5, 2), (9, 4)),), (((12, 3),),)], body=(POINT,))
        self.check(room, 7, 3, True)
        self.check(room, 12, 3, True)
        room = a_room(20, 10, walls=[(((5, 2), (9, 4)),), (((12, 3),),)])
        self.check(room, "13/2", "5/2", False)
        self.check(room, "23/2", "5/2", False)
        self.check(room, 12, "5/2", True)

    def test_between_two_walls(self):
        room = a_room(20, 10, walls=[(box(4, 0, 5, 10),), (box(6, 0, 7, 10),)])
        self.check(room, 5, 4, True)
        self.check(room, 5 + HAIR, 4, False)

    def test_a_body_as_wide_as_the_room(self):
        room = a_room(20, 10, body=(box(0, 0, 20, 2),))
        self.check(room, 0, 3, True)
        self.check(room, HAIR, 3, False)
        room = a_room(20, 10, body=(box(0, 0, 21, 2),))
        self.check(room, 0, 3, False)
        self.check(room, -1, 3, False)

    def test_all_pieces_of_a_body(self):
        room = a_room(20, 10, walls=[(box(5, 4, 7, 6),)], body=(SQUARE, box(3, 0, 4, 1)))
        self.check(room, 2, 5, False)
        self.check(room, 1, 5, True)
        self.check(room, 7, 5, True)
        self.check(room, "9/2", 5, False)

    def test_doors(self):
        room = a_room(20, 10, doors=[(box(5, 0, 6, 10),)])
        self.check(room, "9/2", 5, False)
        room.open_door("a")
        self.check(room, "9/2", 5, True)

    def test_rooms_by_chance(self):
        chance = random.Random(17)
        for _ in range(60):
            room = some_room(chance)
            for place in chance.sample(halves(room), 12):
                self.assertIs(is_loose(room, "mover", place), is_loose_place(room, "mover", place))

    def test_each_is_defined_in_its_file(self):
        for name in ("is_loose", "length", "in_sight", "slide", "takes_slide"):
            self.assertEqual(getattr(sliding, name).__module__, "roomyway.sliding")


class Lengths(unittest.TestCase):

    def check(self, expected, *points):
        self.assertEqual(length(tuple(points)), number(expected))
        self.assertEqual(drive(points), Fraction(expected))

    def test_lengths(self):
        self.check(0, spot(3, 4))
        self.check(0, spot(3, 4), spot(3, 4))
        self.check(7, spot(0, 0), spot(3, 4))
        self.check(7, spot(3, 0), spot(0, 4))
        self.check(7, spot(0, 4), spot(3, 0))
        self.check(14, spot(0, 0), spot(3, 4), spot(0, 0))
        self.check("17/6", spot("1/3", "1/2"), spot("-2/3", "7/3"))
        self.check("1/2", spot("1/4", 0), spot("1/2", 0), spot("1/2", "1/4"))
        self.check("5/3", spot(0, 0), spot("1/3", "1/3"), spot("2/3", 1))

    def test_lengths_by_chance(self):
        chance = random.Random(170)
        for _ in range(200):
            way = tuple(spot(*[Fraction(chance.randint(-9, 9), chance.randint(1, 9)) for _ in "xy"])
                        for _ in range(chance.randint(1, 6)))
            self.check(drive(way), *way)


class CornersInSight(unittest.TestCase):

    def test_corners_of_a_wall(self):
        room = a_room(20, 10, walls=[(box(8, 4, 10, 6),)], body=(POINT,))
        self.assertEqual(in_sight(room, "mover", spot(12, 1), spot("17/2", 7)), [
            spot(8, 4), spot(8, 6), spot("17/2", 7), spot(10, 4), spot(10, 6), spot(12, 1)
        ])

    def test_each_once(self):
        room = a_room(20, 10, walls=[(box(8, 4, 10, 6),), (box(10, 4, 11, 5),), (((8, 4),), ((8, 4), (8, 6)))],
                      body=(POINT,))
        expected = [spot(8, 4), spot(8, 6), spot(10, 4), spot(10, 5), spot(10, 6), spot(11, 4), spot(11, 5)]
        self.assertEqual(in_sight(room, "mover", spot(8, 4), spot(8, 4)), expected)
        self.assertEqual(in_sight(room, "mover", spot(11, 5), spot(8, 6)), expected)
        self.assertEqual(in_sight(room, "mover", spot(1, 1), spot(1, 1)), [spot(1, 1)] + expected)

    def test_only_loose_places(self):
        # The first wall goes beyond the room, and the second one is partly in it.
        room = a_room(20, 10, walls=[(box(8, -5, 10, 6),), (box(9, 4, 12, 8),)], body=(POINT,))
        self.assertEqual(in_sight(room, "mover", spot(1, 1), spot(2, 2)), [
            spot(1, 1), spot(2, 2), spot(8, 6), spot(9, 8), spot(12, 4), spot(12, 8)
        ])

    def test_corners_on_the_frame(self):
        room = a_room(20, 10, walls=[(box(8, 0, 9, 7),)], body=(POINT,))
        self.assertEqual(in_sight(room, "mover", spot(0, 0), spot(20, 10)), [
            spot(0, 0), spot(8, 0), spot(8, 7), spot(9, 0), spot(9, 7), spot(20, 10)
        ])

    def test_regions_and_not_walls(self):
        self.assertEqual(in_sight(AROUND, "mover", LEFT, RIGHT), [LEFT, spot(7, 7), spot(9, 7), RIGHT])

    def test_the_order_with_fractions(self):
        room = a_room(20, 10, walls=[(box(8, 4, 10, 6),)], body=(POINT,))
        for start in (spot("799/100", 9), spot(8, "999/250"), spot(8, "401/100"), spot("801/100", 1)):
            goal = spot("71/9", "1/7")
            self.assertEqual(in_sight(room, "mover", start, goal), sights_of(room, "mover", start, goal))

    def test_rooms_by_chance(self):
        chance = random.Random(18)
        for _ in range(40):
            room = some_room(chance)
            places = some_loose_places(chance, room)
            if len(places) > 1:
                self.assertEqual(in_sight(room, "mover", *places[:2]), sights_of(room, "mover", *places[:2]))

    def test_any_number_of_regions(self):
        room = a_room(20, 10, walls=[(SQUARE,) * 3] * 12, body=(POINT,) * 3)
        self.assertEqual(in_sight(room, "mover", spot(2, 2), spot(3, 3))[-3:], [spot(1, 1), spot(2, 2), spot(3, 3)])

    def test_the_list_belongs_to_the_caller(self):
        found = in_sight(AROUND, "mover", LEFT, RIGHT)
        found.clear()
        self.assertEqual(len(in_sight(AROUND, "mover", LEFT, RIGHT)), 4)

    def test_unknown_bodies(self):
        with self.assertRaises(UnknownThing):
            in_sight(AROUND, "body", LEFT, RIGHT)
        with self.assertRaises(UnknownThing):
            is_loose(AROUND, "body", LEFT)


class Sliding(unittest.TestCase):

    def check(self, room, start, goal, long):
        """Check an answer by the words of the document; `long` is the length of the way, or None if there is none."""
        answer = slide(room, "mover", start, goal)
        self.assertIs(type(answer), tuple)
        self.assertEqual((answer[0], len(answer)), ("none", 2) if long is None else ("way", 3))
        self.assertIs(type(answer[-1]), dict)
        for value in list(answer[-1].values()):
            self.assertEqual([type(part) for part in value], [int, int])
            self.assertTrue(value[1] >= 1 and gcd(*value) == 1)
        seen = seen_from(room, "mover", start, goal)
        self.assertTrue(is_slide(seen, regions_of(room, "mover"), start, goal, answer), answer)
        self.assertIs(takes_slide(room, "mover", start, goal, answer), True)
        if long is not None:
            self.assertIs(type(answer[1]), tuple)
            self.assertEqual(length(answer[1]), number(long))
            self.assertEqual(answer[2][goal], number(long))
        return answer

    def test_straight(self):
        self.check(a_room(20, 10), spot(1, 2), spot(7, 5), 9)
        self.check(a_room(20, 10), spot(0, 0), spot(19, 9), 28)
        self.check(a_room(20, 10), spot("1/3", "1/2"), spot("10/3", 5), Fraction(15, 2))

    def test_to_itself(self):
        self.check(AROUND, LEFT, LEFT, 0)
        self.check(AROUND, spot(7, 7), spot(7, 7), 0)
        self.check(BLOCKED, RIGHT, RIGHT, 0)

    def test_around_a_wall(self):
        self.check(AROUND, LEFT, RIGHT, 15 + 2 + 3)
        self.check(AROUND, spot(2, 8), RIGHT, 15 + 4)
        self.check(AROUND, spot(7, 3), spot(9, 3), 2 + 8)
        self.check(AROUND, spot("7/2", "9/2"), RIGHT, Fraction(27, 2) + Fraction(5, 2) + 3)

    def test_along_what_it_touches(self):
        self.check(ALONG, LEFT, RIGHT, 15 + 4 + 5)
        self.check(ALONG, spot(7, 9), spot(9, 9), 2)
        self.check(DIAGONAL, LEFT, RIGHT, 16)
        self.check(CORNERS, LEFT, RIGHT, 16)
        self.check(LINE, LEFT, RIGHT, 16)

    def test_between_frame_and_frame(self):
        room = a_room(20, 2, walls=[(box(8, 0, 9, 1),)])
        self.check(room, spot(0, 0), spot(19, 0), 21)
        room.build("b", (box(12, 1, 13, 2),))
        self.check(room, spot(0, 0), spot(19, 0), 21)
        room.drop("b")
        room.build("b", (box(9, 1, 10, 2),))
        self.assertEqual(slide(room, "mover", spot(0, 0), spot(19, 0))[0], "none")

    def test_no_way(self):
        answer = self.check(BLOCKED, LEFT, RIGHT, None)
        self.assertEqual(answer, ("none", {LEFT: (0, 1)}))
        answer = self.check(ring_of_boxes(False), spot(7, 7), spot(1, 1), None)
        self.assertEqual(set(answer[1]), {spot(7, 7), spot(6, 5), spot(7, 5), spot(8, 5), spot(9, 5)})
        self.check(ring_of_boxes(False), spot(1, 1), spot(7, 7), None)

    def test_points_that_cannot_be_reached_have_no_height(self):
        answer = self.check(ring_of_boxes(False), spot(1, 1), spot(13, 13), 24)
        rim = [(3, 3), (5, 3), (6, 3), (7, 3), (8, 3), (9, 3), (11, 3), (11, 5), (11, 9), (11, 11), (9, 11), (5, 11),
               (3, 11), (3, 9), (3, 5)]
        self.assertEqual(set(answer[2]), {spot(1, 1), spot(13, 13)} | {spot(*corner) for corner in rim})

    def test_doors(self):
        room = ring_of_boxes(False)
        room.open_door("e")
        self.check(room, spot(7, 7), spot(1, 1), 12)
        room.shut_door("e")
        self.check(room, spot(7, 7), spot(1, 1), None)

    def test_all_pieces_of_a_body(self):
        room = a_room(20, 10, walls=[(box(8, 3, 9, 10),)], body=(SQUARE,))
        self.check(room, LEFT, RIGHT, 15 + 3 + 2)
        room.drop_body("mover")
        room.add_body("mover", (SQUARE, box(0, 2, 1, 3)))
        self.check(room, LEFT, RIGHT, 15 + 5 + 4)
        room.drop_body("mover")
        room.add_body("mover", (SQUARE, box(0, 3, 1, 4)))
        self.check(room, LEFT, RIGHT, None)

    def test_each_case(self):
        for name, (room, start, goal, is_way) in FEW.items():
            with self.subTest(name=name):
                seen = seen_from(room, "mover", start, goal)
                long = distances(seen, start).get(goal)
                self.check(room, start, goal, long)
                if is_way:
                    self.assertIsNotNone(long)

    def test_however_the_room_lies(self):
        for name, (room, start, goal, _) in FEW.items():
            answer = slide(room, "mover", start, goal)
            for kind, change in changes(room).items():
                with self.subTest(name=name, kind=kind):
                    other = turned(room, change)
                    ends = moved_place(change, start), moved_place(change, goal)
                    told = slide(other, "mover", *ends)
                    self.assertIs(takes_slide(other, "mover", *ends, told), True)
                    self.assertEqual(told[0], answer[0])
                    self.assertEqual(len(told[-1]), len(answer[-1]))
                    if told[0] == "way":
                        times = 3 if kind == "three times" else 1
                        self.assertEqual(length(told[1]), number(times * drive(answer[1])))

    def test_rooms_by_chance(self):
        chance = random.Random(19)
        told = {True: 0, False: 0}
        for _ in range(70):
            room = some_room(chance)
            places = some_loose_places(chance, room)
            if len(regions(room, "mover")) <= 30:
                for start, goal in zip(places, places[1:]):
                    long = distances(seen_from(room, "mover", start, goal), start).get(goal)
                    told[long is not None] += 1
                    self.check(room, start, goal, long)
        self.assertGreater(min(told.values()), 5)

    def test_the_same_again(self):
        for name, (room, start, goal, _) in FEW.items():
            with self.subTest(name=name):
                before = room.walls(), room.doors(), room.bodies()
                first = slide(room, "mover", start, goal)
                again = slide(room, "mover", start, goal)
                self.assertEqual(again, first)
                again[-1].clear()
                self.assertEqual(slide(room.copy(), "mover", start, goal), first)
                self.assertEqual((room.walls(), room.doors(), room.bodies()), before)


class Errors(unittest.TestCase):

    def test_unknown_bodies(self):
        answer = slide(AROUND, "mover", LEFT, RIGHT)
        for name in ("a", "movers", "b"):
            for call, arguments in (
                (slide, (LEFT, RIGHT)), (slide, (spot(-1, 0), RIGHT)), (takes_slide, (LEFT, RIGHT, answer)),
                (takes_slide, (spot(-1, 0), RIGHT, answer)), (is_loose, (LEFT,)),
            ):
                with self.assertRaises(UnknownThing):
                    call(AROUND, name, *arguments)

    def test_places_that_are_not_loose(self):
        for place in (spot("-1/9", 5), spot(8, 5), spot("71/10", 5), spot(-5, 5), spot("191/10", 5), spot(10 ** 9, 5)):
            for ends in ((place, RIGHT), (LEFT, place), (place, place)):
                with self.assertRaises(NotFree):
                    slide(AROUND, "mover", *ends)
        for place in (spot(0, 5), spot(7, 5), spot(19, 5), spot(8, 9)):
            self.assertEqual(slide(AROUND, "mover", place, RIGHT)[0], "way")

    def crowd(self, parts, pieces):
        walls = [tuple(((2 * k % 17 + 1, k // 3 + 1),) for k in range(j, pieces, 12)) for j in range(12)]
        body = tuple(((k, 0), (k, 1)) for k in range(parts))
        return a_room(20, 12, walls=[shape for shape in walls if shape], body=body)

    def test_the_most_regions(self):
        for parts, pieces in ((1, 26), (2, 11), (3, 6)):
            room = self.crowd(parts, pieces)
            self.assertEqual(len(regions(room, "mover")), 30)
            answer = slide(room, "mover", spot(0, 0), spot(15, 11))
            self.assertEqual((answer[0], length(answer[1])), ("way", (26, 1)))
            self.assertIs(takes_slide(room, "mover", spot(0, 0), spot(15, 11), answer), True)

    def test_too_many_regions(self):
        for parts, pieces in ((1, 27), (2, 12), (3, 7), (1, 36)):
            room = self.crowd(parts, pieces)
            self.assertGreater(len(regions(room, "mover")), 30)
            for goal in (spot(15, 11), spot(0, 0)):
                with self.assertRaises(TooLarge):
                    slide(room, "mover", spot(0, 0), goal)

    def test_the_order_of_errors(self):
        room = self.crowd(1, 36)
        with self.assertRaises(UnknownThing):
            slide(room, "body", spot(-1, 0), spot(0, 0))
        for ends in ((spot(-1, 0), spot(0, 0)), (spot(0, 0), spot(0, -1))):
            with self.assertRaises(NotFree):
                slide(room, "mover", *ends)

    def test_the_judge_takes_any_number_of_regions(self):
        room = a_room(20, 10, walls=[(box(8, -5, 9, 7),) * 3] * 12, body=(SQUARE,) * 3)
        self.assertEqual(len(regions(room, "mover")), 120)
        answer = slide(AROUND, "mover", LEFT, RIGHT)
        self.assertIs(takes_slide(room, "mover", LEFT, RIGHT, answer), True)
        self.assertIs(takes_slide(room, "mover", LEFT, RIGHT, ("none", answer[2])), False)


class Judge(unittest.TestCase):

    def setUp(self):
        self.room = AROUND
        self.start, self.goal = LEFT, RIGHT
        self.way = (LEFT, spot(7, 7), spot(9, 7), RIGHT)
        self.heights = {LEFT: (0, 1), spot(7, 7): (7, 1), spot(9, 7): (9, 1), RIGHT: (20, 1)}

    def check(self, answer, expected):
        seen = seen_from(self.room, "mover", self.start, self.goal)
        before = repr(answer)
        with self.subTest(answer=answer):
            self.assertIs(takes_slide(self.room, "mover", self.start, self.goal, answer), expected)
            self.assertEqual(is_slide(seen, regions_of(self.room, "mover"), self.start, self.goal, answer), expected)
            self.assertEqual(repr(answer), before)

    def with_height(self, p, height):
        heights = dict(self.heights)
        heights[p] = number(height)
        return heights

    def test_right_answers(self):
        self.check(("way", self.way, self.heights), True)
        self.check(slide(self.room, "mover", LEFT, RIGHT), True)
        self.check(("way", self.way, dict(list(self.heights.items())[::-1])), True)

    def test_other_ways_of_the_same_length(self):
        for way in (
            (LEFT, spot(2, 7), spot(17, 7), RIGHT),
            (LEFT, spot(4, 5), spot(4, 7), spot(12, 7), spot(12, 5), RIGHT),
            (LEFT, LEFT, spot(7, 7), spot(8, 7), spot(9, 7), RIGHT, RIGHT),
            (LEFT, spot("7/2", "11/2"), spot(7, 7), spot(9, 7), spot("35/3", "9/2"), RIGHT),
        ):
            self.check(("way", way, self.heights), True)

    def test_wrong_ways(self):
        for way in (
            (LEFT, RIGHT),
            (LEFT, spot(7, 7), spot(9, 7)),
            (spot(7, 7), spot(9, 7), RIGHT),
            (LEFT,), (RIGHT,), (), self.way[::-1],
            (LEFT, spot(7, 7), RIGHT),
            (LEFT, spot(9, 7), RIGHT),
            (LEFT, spot(7, 8), spot(9, 8), RIGHT),
            (LEFT, spot(7, "7001/1000"), spot(9, 7), RIGHT),
            (LEFT, spot(7, "6999/1000"), spot(9, 7), RIGHT),
            (LEFT, spot(2, 9), spot(17, 9), RIGHT),
            (LEFT, spot(2, 4), RIGHT),
            # These two are as long as the goal is high.
            (spot(2, 9), spot(9, 9), RIGHT),
            (LEFT, spot(7, 7), spot(9, 7), spot(16, 3)),
        ):
            self.check(("way", way, self.heights), False)

    def test_a_way_of_the_right_length_that_enters(self):
        self.check(("way", (LEFT, spot(2, 3), RIGHT), self.heights), False)
        self.check(("way", (LEFT, spot(7, 7), spot(8, 6), spot(9, 7), spot(17, 7), RIGHT), self.heights), False)

    def test_a_point_too_many(self):
        for p in (spot(5, 5), spot(8, 7), spot(7, -6), spot(8, 5), spot(0, 0)):
            height = drive((LEFT, p))
            self.check(("way", self.way, self.with_height(p, height)), False)
            self.check(("way", self.way, self.with_height(p, 0)), False)

    def test_a_point_missing(self):
        for p in self.heights:
            heights = dict(self.heights)
            del heights[p]
            self.check(("way", self.way, heights), False)
        self.check(("way", self.way, {}), False)
        swapped = dict(self.heights)
        swapped[spot(8, 7)] = swapped.pop(spot(7, 7))
        self.check(("way", self.way, swapped), False)

    def test_a_height_changed(self):
        for p, (height, _) in self.heights.items():
            for change in (1, Fraction(1, 1000), 100, -100):
                self.check(("way", self.way, self.with_height(p, height + change)), False)
        self.check(("way", self.way, self.with_height(LEFT, Fraction(-1, 1000))), False)
        self.check(("way", self.way, self.with_height(RIGHT, Fraction(19999, 1000))), False)
        self.check(("way", self.way, {p: (n + 1, 1) for p, (n, _) in self.heights.items()}), False)

    def test_heights_for_a_longer_way(self):
        way = (LEFT, spot(7, 8), spot(9, 8), RIGHT)
        self.check(("way", way, self.with_height(RIGHT, 22)), False)
        heights = {LEFT: (0, 1), spot(7, 7): (8, 1), spot(9, 7): (10, 1), RIGHT: (22, 1)}
        self.check(("way", way, heights), False)

    def test_heights_may_be_less_where_the_words_allow_it(self):
        room = a_room(20, 10, walls=[(box(8, 4, 10, 6),)], body=(POINT,))
        self.room, self.start, self.goal = room, spot(2, 1), spot(4, 1)
        answer = slide(room, "mover", self.start, self.goal)
        self.check(answer, True)
        self.check((*answer[:2], {p: (min(n, 9), 1) for p, (n, _) in answer[2].items()}), True)
        self.check((*answer[:2], {p: (min(n, 2), 1) for p, (n, _) in answer[2].items()}), True)
        self.check((*answer[:2], {p: (min(n, 1), 1) for p, (n, _) in answer[2].items()}), False)

    def test_none_although_there_is_a_way(self):
        self.check(("none", self.heights), False)
        self.check(("none", {}), False)
        self.check(("none", {LEFT: (0, 1)}), False)
        heights = dict(self.heights)
        del heights[RIGHT]
        self.check(("none", heights), False)

    def test_there_is_none(self):
        self.room = ring_of_boxes(False)
        self.start, self.goal = spot(7, 7), spot(1, 1)
        answer = slide(self.room, "mover", self.start, self.goal)
        self.check(answer, True)
        self.check(("none", {}), False)
        self.check(("none", {self.start: (0, 1)}), False)
        self.check(("way", (self.start, self.goal), answer[1]), False)
        self.check(("way", (self.start,), answer[1]), False)
        # The points outside have heights that would do among themselves.
        outside = {p: (0, 1) for p in in_sight(self.room, "mover", self.start, self.goal) if p not in answer[1]}
        self.check(("none", {**answer[1], **outside}), False)
        self.check(("way", (self.start, self.goal), {**answer[1], **outside}), False)
        del outside[self.goal]
        self.check(("none", {**answer[1], **outside}), False)
        for p in answer[1]:
            rest = dict(answer[1])
            del rest[p]
            self.check(("none", rest), False)
            n, d = answer[1][p]
            self.check(("none", {**answer[1], p: (n + d, d)}), False)

    def test_points_that_cannot_be_reached(self):
        self.room = ring_of_boxes(False)
        self.start, self.goal = spot(1, 1), spot(13, 13)
        answer = slide(self.room, "mover", self.start, self.goal)
        self.check(answer, True)
        inside = [p for p in in_sight(self.room, "mover", self.start, self.goal) if p not in answer[2]]
        self.assertEqual(inside, [spot(6, 5), spot(7, 5), spot(8, 5), spot(9, 5)])
        self.check((*answer[:2], {**answer[2], **{p: (0, 1) for p in inside}}), False)
        self.check((*answer[:2], {**answer[2], inside[0]: (0, 1)}), False)

    def test_places_that_are_not_loose(self):
        for place in (spot(8, 5), spot(-1, 5), spot("-1/1000", 5), spot(10 ** 6, 5)):
            for ends in ((place, RIGHT), (LEFT, place), (place, place)):
                way = (ends[0], ends[1])
                heights = {p: number(drive((ends[0], p))) for p in in_sight(AROUND, "mover", *ends)}
                self.assertIs(takes_slide(AROUND, "mover", *ends, ("way", way, heights)), False)
                self.assertIs(takes_slide(AROUND, "mover", *ends, ("none", {ends[0]: (0, 1)})), False)
                heights = {p: self.heights[p] for p in (LEFT, spot(7, 7), spot(9, 7))}
                self.assertIs(takes_slide(AROUND, "mover", *ends, ("none", heights)), False)
        far = (spot(6000, 6000), spot(6001, 6000))
        self.assertIs(takes_slide(AROUND, "mover", *far, ("way", far, {far[0]: (0, 1), far[1]: (1, 1)})), False)

    def test_another_room(self):
        answer = slide(AROUND, "mover", LEFT, RIGHT)
        self.assertIs(takes_slide(BLOCKED, "mover", LEFT, RIGHT, answer), False)
        self.assertIs(takes_slide(a_room(20, 10), "mover", LEFT, RIGHT, answer), False)
        self.assertIs(takes_slide(AROUND, "mover", RIGHT, LEFT, answer), False)
        self.assertIs(takes_slide(AROUND, "mover", LEFT, spot(16, 4), answer), False)

    def test_heights_by_chance(self):
        chance = random.Random(190)
        self.room, self.start, self.goal = POCKET, spot(6, 6), spot(14, 6)
        seen = seen_from(POCKET, "mover", self.start, self.goal)
        answer = slide(POCKET, "mover", self.start, self.goal)
        told = {True: 0, False: 0}
        for _ in range(200):
            heights = dict(answer[2])
            p = chance.choice(list(heights))
            n, d = heights[p]
            heights[p] = number(Fraction(n, d) - Fraction(chance.randint(-1, 30), chance.choice((1, 2, 7))))
            changed = (*answer[:2], heights)
            expected = is_slide(seen, regions_of(POCKET, "mover"), self.start, self.goal, changed)
            told[expected] += 1
            self.assertIs(takes_slide(POCKET, "mover", self.start, self.goal, changed), expected)
        self.assertGreater(min(told.values()), 10)


if __name__ == "__main__":
    unittest.main()
