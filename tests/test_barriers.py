"""Points 15 and 16: rings, going round, barriers, and their judge."""

import random
import unittest
from fractions import Fraction
from itertools import product
from math import gcd

from cases import BLOCKED, CASES, LEFT, RIGHT, SHUT, crowded, ring_of_boxes
from helpers import POINT, SQUARE, a_room, box, changes, is_barrier, moved_place, regions_of, rounds, some_free_places
from helpers import some_room, spot, turned, wrapped

from roomyway import barriers
from roomyway.barriers import find_barrier, goes_round, takes_barrier
from roomyway.errors import NotFree, TooLarge, UnknownThing
from roomyway.regions import regions
from roomyway.ways import find_way

ANY = ((0, 0),)


def ring_through(*corners):
    """A ring of points with whole coordinates, through a region that does not matter."""
    return tuple((ANY, spot(x, y)) for x, y in corners)


class Finding(unittest.TestCase):

    def check(self, room, start, goal, is_there):
        """Check that there is a barrier, or none, and that it is one by the words of the document."""
        ring = find_barrier(room, "mover", start, goal)
        self.assertEqual(ring is not None, is_there)
        if ring is None:
            return
        self.assertIs(type(ring), tuple)
        for pair in ring:
            self.assertEqual((type(pair), len(pair)), (tuple, 2))
            for value in pair[1]:
                self.assertEqual([type(part) for part in value], [int, int])
                self.assertTrue(value[1] >= 1 and gcd(*value) == 1)
        self.assertTrue(is_barrier(room, "mover", start, goal, ring), ring)
        self.assertIs(takes_barrier(room, "mover", start, goal, ring), True)
        self.assertIs(takes_barrier(room, "mover", goal, start, ring), True)
        self.assertNotEqual(goes_round(ring, start), goes_round(ring, goal))

    def test_each_case(self):
        for name, (room, start, goal, is_way) in CASES.items():
            with self.subTest(name=name):
                self.check(room, start, goal, not is_way)
                self.check(room, goal, start, not is_way)

    def test_however_the_room_lies(self):
        for name, (room, start, goal, is_way) in CASES.items():
            for kind, change in changes(room).items():
                with self.subTest(name=name, kind=kind):
                    ends = moved_place(change, start), moved_place(change, goal)
                    self.check(turned(room, change), *ends, not is_way)

    def test_a_way_or_a_barrier_and_never_both(self):
        chance = random.Random(16)
        told = {True: 0, False: 0}
        for _ in range(220):
            room = some_room(chance)
            free = some_free_places(chance, room)
            if len(regions(room, "mover")) <= 60:
                for start, goal in zip(free, free[1:]):
                    is_way = find_way(room, "mover", start, goal) is not None
                    told[is_way] += 1
                    self.check(room, start, goal, not is_way)
        self.assertGreater(min(told.values()), 10)

    def test_long_thin_walls(self):
        chance = random.Random(15)
        told = {True: 0, False: 0}
        for many in (4, 8, 12, 16, 20) * 2:
            ends = [[(chance.randint(-20, 420), chance.randint(-20, 320)) for _ in "ab"] for _ in range(many)]
            pieces = [wrapped(pair + [(x + chance.randint(0, 3), y) for x, y in pair[:1]]) for pair in ends]
            walls = [tuple(pieces[k::12]) for k in range(min(12, many))]
            body = (wrapped([(0, 0), (chance.randint(0, 2), 1), (1, chance.randint(0, 2))]),)
            room = a_room(400, 300, walls=walls, body=body)
            places = [spot(Fraction(chance.randint(1, 800), 2), Fraction(chance.randint(1, 600), 2)) for _ in range(9)]
            free = [place for place in places if self.is_free(room, place)][:5]
            for start, goal in zip(free, free[1:]):
                is_way = find_way(room, "mover", start, goal) is not None
                told[is_way] += 1
                self.check(room, start, goal, not is_way)
        self.assertGreater(min(told.values()), 3)

    def is_free(self, room, place):
        try:
            return find_barrier(room, "mover", place, place) is None
        except NotFree:
            return False

    def test_a_place_and_itself(self):
        self.check(BLOCKED, LEFT, LEFT, False)

    def test_doors(self):
        room = SHUT.copy()
        self.check(room, LEFT, RIGHT, True)
        room.open_door("b")
        self.check(room, LEFT, RIGHT, False)
        room.shut_door("b")
        self.check(room, LEFT, RIGHT, True)
        room.drop("b")
        self.check(room, LEFT, RIGHT, False)

    def test_the_same_again(self):
        for name, (room, start, goal, _) in CASES.items():
            with self.subTest(name=name):
                before = room.walls(), room.doors(), room.bodies()
                first = find_barrier(room, "mover", start, goal)
                self.assertEqual(find_barrier(room, "mover", start, goal), first)
                self.assertEqual(find_barrier(room.copy(), "mover", start, goal), first)
                self.assertEqual((room.walls(), room.doors(), room.bodies()), before)

    def test_each_is_defined_in_its_file(self):
        for name in ("find_barrier", "goes_round", "takes_barrier"):
            self.assertEqual(getattr(barriers, name).__module__, "roomyway.barriers")


class Errors(unittest.TestCase):

    def test_unknown_bodies(self):
        ring = find_barrier(BLOCKED, "mover", LEFT, RIGHT)
        for name in ("a", "movers", "b"):
            for call, arguments in (
                (find_barrier, (LEFT, RIGHT)), (find_barrier, (spot(0, 0), RIGHT)),
                (takes_barrier, (LEFT, RIGHT, ring)), (takes_barrier, (spot(0, 0), RIGHT, ())),
            ):
                with self.assertRaises(UnknownThing):
                    call(BLOCKED, name, *arguments)

    def test_places_that_are_not_free(self):
        for place in (spot(0, 5), spot(8, 5), spot(7, 5), spot(9, 5), spot(-5, 5), spot(10 ** 9, 5)):
            for ends in ((place, RIGHT), (LEFT, place), (place, place)):
                with self.assertRaises(NotFree):
                    find_barrier(BLOCKED, "mover", *ends)

    def test_the_most_regions(self):
        room = crowded(16)
        room.drop("a")
        room.build("a", (((2, 0), (2, 10)), SQUARE, SQUARE))
        self.assertEqual(len(regions(room, "mover")), 60)
        start, goal = spot("1/2", 5), spot("103/2", 1)
        ring = find_barrier(room, "mover", start, goal)
        self.assertTrue(is_barrier(room, "mover", start, goal, ring))

    def test_too_many_regions(self):
        pairs = a_room(20, 10, walls=[(((2, y),), ((3, y),), ((4, y),)) for y in range(9)], body=(POINT, POINT))
        self.assertEqual(len(regions(pairs, "mover")), 62)
        for room in (crowded(17), crowded(20), pairs):
            for goal in (spot(1, "17/2"), spot(1, 1)):
                with self.assertRaises(TooLarge):
                    find_barrier(room, "mover", spot(1, 1), goal)

    def test_the_order_of_errors(self):
        room = crowded(17)
        with self.assertRaises(UnknownThing):
            find_barrier(room, "body", spot(-1, 1), spot(1, 1))
        for ends in ((spot(-1, 1), spot(1, 1)), (spot(1, 1), spot(0, 0))):
            with self.assertRaises(NotFree):
                find_barrier(room, "mover", *ends)

    def test_the_judge_takes_any_number_of_regions(self):
        walls = [(box(8, 0, 9, 10), SQUARE, SQUARE)] + [(SQUARE, SQUARE, SQUARE)] * 11
        room = a_room(20, 10, walls=walls, body=(SQUARE,) * 3)
        self.assertEqual(len(regions(room, "mover")), 120)
        ring = find_barrier(BLOCKED, "mover", LEFT, RIGHT)
        self.assertIs(takes_barrier(room, "mover", LEFT, RIGHT, ring), True)


class GoingRound(unittest.TestCase):

    def check(self, ring, p, expected):
        with self.subTest(ring=ring, p=p):
            self.assertIs(goes_round(ring, p), expected)
            self.assertEqual(rounds(ring, p), expected)

    def test_a_square(self):
        for ring in (ring_through((0, 0), (4, 0), (4, 4), (0, 4)), ring_through((4, 4), (4, 0), (0, 0), (0, 4))):
            self.check(ring, spot(1, 1), True)
            self.check(ring, spot("1/3", "11/3"), True)
            self.check(ring, spot(-1, 1), False)
            self.check(ring, spot(5, 1), False)
            self.check(ring, spot(1, 5), False)
            self.check(ring, spot(1, -1), False)
            self.check(ring, spot(-1, 4), False)
            self.check(ring, spot(-1, 0), False)
            self.check(ring, spot(-1, 5), False)

    def test_points_of_the_very_height_of_the_place(self):
        diamond = ring_through((0, 0), (3, -2), (6, 0), (3, 2))
        self.check(diamond, spot(3, 0), True)
        self.check(diamond, spot(-1, 0), False)
        self.check(diamond, spot(7, 0), False)
        self.check(diamond, spot(0, 2), False)
        self.check(diamond, spot(0, -2), False)
        teeth = ring_through((0, -3), (2, 0), (4, -3), (6, 0), (8, -3), (8, 3), (6, 0), (4, 3), (2, 0), (0, 3))
        for x in range(-1, 10):
            self.check(teeth, spot(Fraction(2 * x + 1, 2), 0), 0 <= x <= 7)

    def test_level_stretches(self):
        steps = ring_through((0, 0), (2, 0), (2, 2), (4, 2), (4, 0), (6, 0), (6, 4), (0, 4))
        for x, y, expected in (
            (1, 2, True), (-1, 2, False), (5, 2, True), (7, 2, False), (-1, 0, False), (3, 0, False), (7, 0, False),
            (-1, 4, False), (3, 3, True), (3, 1, False), (1, 1, True), (5, 1, True),
        ):
            self.check(steps, spot(x, y), expected)

    def test_twice_around(self):
        square = ((0, 0), (4, 0), (4, 4), (0, 4))
        self.check(ring_through(*square, *square), spot(1, 1), False)
        self.check(ring_through(*square, *square, *square), spot(1, 1), True)
        self.check(ring_through(*square, *square[::-1]), spot(1, 1), False)

    def test_the_stretch_behind_the_last_pair_counts(self):
        self.check(ring_through((0, 0), (4, 0), (4, 4)), spot(3, 1), True)
        self.check(ring_through((4, 4), (0, 0), (4, 0)), spot(3, 1), True)
        self.check(ring_through((4, 0), (4, 4), (0, 0)), spot(3, 1), True)

    def test_short_rings(self):
        self.check(ring_through((3, 3)), spot(1, 3), False)
        self.check(ring_through((3, 3), (3, 3)), spot(1, 3), False)
        self.check(ring_through((3, 0), (3, 5)), spot(1, 3), False)
        self.check(ring_through((3, 0), (3, 5), (3, 2)), spot(1, 3), False)

    def test_the_words_at_the_rim(self):
        # A stretch through the place does not pass to the right of it; what is level with its lower end is counted.
        triangle = ring_through((0, 0), (4, 0), (4, 4))
        for x, y in product(range(-1, 6), repeat=2):
            p = spot(x, y)
            self.assertIs(goes_round(triangle, p), rounds(triangle, p))
        self.check(triangle, spot(3, 0), True)
        self.check(triangle, spot(4, 2), False)
        self.check(triangle, spot(2, 2), True)

    def test_fractions(self):
        ring = ((ANY, spot("1/3", "1/7")), (ANY, spot("7/3", "1/5")), (ANY, spot("5/4", "9/4")))
        for x, y in product(range(-1, 9), repeat=2):
            p = spot(Fraction(x, 3), Fraction(y, 3))
            self.assertIs(goes_round(ring, p), rounds(ring, p))

    def test_rings_by_chance(self):
        chance = random.Random(150)
        told = {True: 0, False: 0}
        for _ in range(1500):
            corners = [(chance.randint(0, 4), chance.randint(0, 4)) for _ in range(chance.randint(1, 8))]
            ring = ring_through(*corners)
            p = spot(Fraction(chance.randint(-1, 9), 2), Fraction(chance.randint(-1, 9), 2))
            expected = rounds(ring, p)
            told[expected] += 1
            self.assertIs(goes_round(ring, p), expected, (ring, p))
        self.assertGreater(min(told.values()), 100)


class Judge(unittest.TestCase):

    def setUp(self):
        self.room = ring_of_boxes(False)
        self.start, self.goal = spot(7, 7), spot(1, 1)
        around = regions_of(self.room, "mover")
        # The body is a unit square, so the regions are the boxes and a strip of 1 below and to the left of each.
        self.left, self.upper, self.right = box(3, 3, 5, 11), box(3, 9, 11, 11), box(9, 3, 11, 11)
        self.low, self.high, self.door = box(3, 3, 7, 5), box(8, 3, 11, 5), box(6, 3, 9, 5)
        for region in (self.left, self.upper, self.right, self.low, self.high, self.door):
            self.assertIn(region, around)
        self.ring = (
            (self.left, spot(4, 4)), (self.upper, spot(4, 10)), (self.right, spot(10, 10)), (self.high, spot(10, 4)),
            (self.door, spot("17/2", 4)), (self.low, spot("13/2", 4)),
        )

    def check(self, ring, expected, start=None, goal=None):
        start, goal = start or self.start, goal or self.goal
        with self.subTest(ring=ring, start=start, goal=goal):
            self.assertIs(takes_barrier(self.room, "mover", start, goal, ring), expected)
            self.assertEqual(bool(ring) and is_barrier(self.room, "mover", start, goal, ring), expected)

    def test_barriers(self):
        self.check(self.ring, True)
        self.check(self.ring, True, self.goal, self.start)
        for k in range(len(self.ring)):
            self.check(self.ring[k:] + self.ring[:k], True)
        self.check(self.ring + self.ring[-1:], True)
        self.check(self.ring[:1] + ((self.left, spot(3, 3)), (self.left, spot("9/2", 8))) + self.ring[1:], True)

    def test_turned_round(self):
        ring = tuple((region, p) for (region, _), (_, p) in zip(self.ring, self.ring[1:] + self.ring[:1]))[::-1]
        self.check(ring, True)
        self.check(self.ring[::-1], False)

    def test_points_on_the_rim_of_their_regions(self):
        ring = (
            (self.left, spot(5, 5)), (self.upper, spot(5, 9)), (self.right, spot(9, 9)), (self.high, spot(9, 5)),
            (self.door, spot(9, 5)), (self.low, spot(6, 5)),
        )
        self.check(ring, True)
        for k in range(len(ring)):
            region, (x, y) = ring[k]
            for away in ((x, (y[0] * 10 ** 9 + 1, y[1] * 10 ** 9)), ((x[0] * 10 ** 9 - 1, x[1] * 10 ** 9), y)):
                moved = ring[:k] + ((region, away),) + ring[k + 1:]
                self.check(moved, is_barrier(self.room, "mover", self.start, self.goal, moved))

    def test_a_point_outside_of_its_region(self):
        self.check(((self.left, spot(2, 4)),) + self.ring[1:], False)
        self.check(self.ring[:1] + ((self.upper, spot(6, 10)),) + self.ring[2:], False)
        self.check(self.ring[:4] + ((self.door, spot("19/2", 4)),) + self.ring[5:], False)
        self.check(self.ring[:5] + ((self.low, spot("15/2", 4)),), False)
        self.check(self.ring[:4] + self.ring[5:], False)
        self.check(self.ring[:5], False)
        self.check(self.ring[1:], False)

    def test_regions_that_are_not_the_bodys(self):
        wall = self.room.walls()["a"][0]
        self.check(((wall, spot(4, 4)),) + self.ring[1:], False)
        self.check(((box(2, 2, 6, 12), spot(4, 4)),) + self.ring[1:], False)
        self.check(((self.left[1:] + self.left[:1], spot(4, 4)),) + self.ring[1:], False)
        self.check(((box(3, 3, 5, 12), spot(4, 4)),) + self.ring[1:], False)
        self.check(tuple((box(0, 0, 15, 15), p) for _, p in self.ring), False)
        self.check(tuple(((), p) for _, p in self.ring), False)
        self.check(((self.upper, spot(4, 4)),) + self.ring[1:], False)

    def test_regions_of_another_body(self):
        self.room.add_body("other", (box(0, 0, 2, 2),))
        ring = find_barrier(self.room, "other", spot(6, 6), spot(1, 1))
        self.assertIs(takes_barrier(self.room, "other", spot(6, 6), spot(1, 1), ring), True)
        self.check(ring, False)
        self.assertIs(takes_barrier(self.room, "other", spot(6, 6), spot(1, 1), self.ring), False)

    def test_a_door_that_is_open(self):
        self.room.open_door("e")
        self.check(self.ring, False)
        self.room.shut_door("e")
        self.check(self.ring, True)
        self.room.drop("b")
        self.check(self.ring, False)

    def test_round_both_or_none(self):
        self.check(self.ring, False, self.start, spot(7, 6))
        self.check(self.ring, False, spot(13, 13), self.goal)
        self.check(self.ring, False, self.start, self.start)
        self.check(self.ring + self.ring, False)
        self.check(self.ring * 3, True)
        self.check(((self.left, spot(4, 4)), (self.left, spot(4, 10)), (self.left, spot(5, 8))), False)
        self.check(((self.left, spot(4, 4)),), False)
        frame = regions_of(self.room, "mover")[:4]
        far = (spot(-1, -1), spot(-1, 15), spot(15, 15), spot(15, -1))
        around = tuple((frame[k], p) for k, p in zip((0, 3, 1, 2), far))
        self.check(around, False)
        self.check(around, False, self.goal, spot(13, 13))

    def test_no_pairs(self):
        self.assertIs(takes_barrier(self.room, "mover", self.start, self.goal, ()), False)

    def test_places_that_are_not_free(self):
        for place in (spot(4, 4), spot(5, 7), spot(0, 0), spot(-1, 7), spot(9, 7), spot(10 ** 6, 7), spot(100, 7)):
            self.check(self.ring, False, self.start, place)
            self.check(self.ring, False, place, self.goal)

    def test_what_is_passed_is_not_changed(self):
        before = repr(self.ring)
        takes_barrier(self.room, "mover", self.start, self.goal, self.ring)
        goes_round(self.ring, self.start)
        self.assertEqual(repr(self.ring), before)

    def test_rings_by_chance(self):
        chance = random.Random(160)
        told = {True: 0, False: 0}
        for _ in range(300):
            ring = list(self.ring)
            for _ in range(chance.randint(1, 2)):
                k = chance.randrange(len(ring))
                region, p = ring[k]
                ring[k] = chance.choice((
                    (region, spot(Fraction(chance.randint(6, 22), 2), Fraction(chance.randint(6, 22), 2))),
                    (chance.choice(ring)[0], p), (region, chance.choice(ring)[1]), chance.choice(ring), ring[k],
                ))
            ring = tuple(ring)
            expected = is_barrier(self.room, "mover", self.start, self.goal, ring)
            told[expected] += 1
            self.assertIs(takes_barrier(self.room, "mover", self.start, self.goal, ring), expected)
        self.assertGreater(min(told.values()), 20)


if __name__ == "__main__":
    unittest.main()
