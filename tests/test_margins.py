"""Point 28: distances, papers for them, the judge of papers, and margins of ways."""

import random
import unittest
from fractions import Fraction
from itertools import product
from math import gcd

from cases import AROUND, CASES, LEFT, RIGHT, near_the_line
from helpers import POINT, SQUARE, a_room, at, box, changes, exact, has, is_free_way, meets, moved_place, number
from helpers import regions_of, sides, some_free_places, some_piece, some_room, spot, stretches_of, turned, wrapped

from roomyway import margins
from roomyway.errors import UnknownThing
from roomyway.margins import distance, distance_paper, margin, takes_distance
from roomyway.ways import find_way

DIAMOND = ((-2, 0), (0, -2), (2, 0), (0, 2))


def between(p, q):
    """The distance of two pairs of fractions."""
    return max(abs(p[0] - q[0]), abs(p[1] - q[1]))


def from_side(p, a, b):
    """The least distance of a point and the points of a segment: between these shares nothing bends."""
    found = [Fraction(0), Fraction(1)]
    for first, last in (
        (a[0] - p[0], b[0] - p[0]), (a[1] - p[1], b[1] - p[1]),
        (a[0] - p[0] - a[1] + p[1], b[0] - p[0] - b[1] + p[1]), (a[0] - p[0] + a[1] - p[1], b[0] - p[0] + b[1] - p[1]),
    ):
        if first != last:
            found.append(Fraction(first) / (first - last))
    return min(between(p, at(a, b, share)) for share in found if 0 <= share <= 1)


def slow_distance(a, b, piece):
    """The distance of a stretch and a piece, from each end to each side and from each corner to the stretch."""
    if meets(a, b, piece):
        return Fraction(0)
    a, b = exact(a), exact(b)
    found = [from_side(p, c, d) for p in (a, b) for c, d in sides(piece)]
    return min(found + [from_side(corner, a, b) for corner in piece])


def grown(piece, far):
    """A piece with all points that are no farther from it than an integer."""
    return wrapped([(x + dx, y + dy) for x, y in piece for dx, dy in product((-far, far), repeat=2)])


def times(many, p):
    return spot(*[many * k for k in exact(p)])


def is_paper(paper, a, b, piece, d):
    """Whether a triple is a paper for a distance, by the words of point 28."""
    u, p, q = paper
    d, p, q = Fraction(*d), exact(p), exact(q)
    if d <= 0 or u == (0, 0) or not has(piece, q) or between(p, q) != d:
        return False
    a, b = exact(a), exact(b)
    if (b[0] - a[0]) * (p[1] - a[1]) != (b[1] - a[1]) * (p[0] - a[0]):
        return False
    if not all(min(a[k], b[k]) <= p[k] <= max(a[k], b[k]) for k in (0, 1)):
        return False
    least = min(u[0] * x + u[1] * y for x, y in (a, b))
    greatest = max(u[0] * x + u[1] * y for x, y in piece)
    return least - greatest == d * (abs(u[0]) + abs(u[1]))


class Case(unittest.TestCase):

    def check_number(self, n):
        self.assertIs(type(n), tuple)
        self.assertEqual([type(part) for part in n], [int, int])
        self.assertTrue(n[1] >= 1 and gcd(*n) == 1, n)

    def check(self, a, b, piece, expected=None):
        """Check the distance and the paper for it, in both directions of the stretch."""
        for a, b in ((a, b), (b, a)):
            with self.subTest(a=a, b=b, piece=piece):
                slow = slow_distance(a, b, piece)
                if expected is not None:
                    self.assertEqual(slow, Fraction(expected))
                d = distance(a, b, piece)
                self.check_number(d)
                self.assertEqual(d, number(slow))
                paper = distance_paper(a, b, piece)
                if d == (0, 1):
                    self.assertIsNone(paper)
                    continue
                self.assertIs(type(paper), tuple)
                u, p, q = paper
                self.assertEqual([type(k) for k in u], [int, int])
                for value in p + q:
                    self.check_number(value)
                self.assertTrue(is_paper(paper, a, b, piece, d), paper)
                self.assertIs(takes_distance(paper, a, b, piece, d), True)


class Distances(Case):

    def test_single_points(self):
        self.check(spot(0, 0), spot(0, 0), ((3, 4),), 4)
        self.check(spot(0, 0), spot(0, 0), ((-3, 3),), 3)
        self.check(spot("1/2", 0), spot("1/2", 0), ((0, 0),), "1/2")
        self.check(spot(3, 4), spot(3, 4), ((3, 4),), 0)
        self.check(spot(3, 4), spot(3, 4), ((-3, 4),), 6)
        self.check(spot(5, 5), spot(5, 5), SQUARE, 4)
        self.check(spot(-1, 9), spot(-1, 9), SQUARE, 8)
        self.check(spot("1/2", "1/2"), spot("1/2", "1/2"), SQUARE, 0)
        self.check(spot("1/2", "3/2"), spot("1/2", "3/2"), SQUARE, "1/2")
        self.check(spot(1, 1), spot(1, 1), SQUARE, 0)

    def test_slanting_sides(self):
        # From (2, 2) to the line x + y = 2 both coordinates give way by as much.
        self.check(spot(2, 2), spot(2, 2), DIAMOND, 1)
        self.check(spot(3, 0), spot(3, 0), DIAMOND, 1)
        self.check(spot(3, 1), spot(3, 1), DIAMOND, 1)
        self.check(spot(3, 2), spot(3, 2), DIAMOND, "3/2")
        self.check(spot(-2, 5), spot(5, -2), DIAMOND, "1/2")
        self.check(spot(0, 6), spot(3, 0), ((0, 0), (1, 0), (0, 2)), "4/3")
        self.check(spot(2, 0), spot(2, 0), ((0, 0), (3, 2)), "4/5")

    def test_segments(self):
        self.check(spot(0, 0), spot(4, 0), ((0, 1), (4, 1)), 1)
        self.check(spot(0, 0), spot(4, 0), ((0, 1), (4, 3)), 1)
        self.check(spot(0, 0), spot(4, 4), ((1, 0), (5, 4)), "1/2")
        self.check(spot(0, 0), spot(4, 0), ((6, 0), (9, 0)), 2)
        self.check(spot(0, 0), spot(4, 4), ((6, 6), (9, 9)), 2)
        self.check(spot(0, 0), spot(2, 4), ((4, 8), (5, 10)), 4)
        self.check(spot(0, 0), spot(4, 4), ((0, 4), (4, 0)), 0)
        self.check(spot(0, 0), spot(4, 4), ((1, 1), (2, 2)), 0)
        self.check(spot(0, 0), spot(4, 4), ((4, 4), (9, 4)), 0)
        self.check(spot(0, 0), spot(4, 4), ((5, 4), (9, 4)), 1)
        self.check(spot(-5, 3), spot(5, 3), ((0, 0),), 3)

    def test_parallel_sides(self):
        self.check(spot(0, 3), spot(9, 3), SQUARE, 2)
        self.check(spot(3, -5), spot(3, 9), SQUARE, 2)
        self.check(spot(0, 4), spot(4, 0), DIAMOND, 1)
        self.check(spot(1, 3), spot(2, 2), DIAMOND, 1)
        self.check(spot(5, 3), spot(9, 3), SQUARE, 4)
        self.check(spot(3, 2), spot(3, 7), SQUARE, 2)

    def test_pieces_that_are_met(self):
        self.check(spot(-3, 0), spot(3, 0), DIAMOND, 0)
        self.check(spot(0, 0), spot(0, 0), DIAMOND, 0)
        self.check(spot(-3, 2), spot(3, 2), DIAMOND, 0)
        self.check(spot(2, 0), spot(3, 0), DIAMOND, 0)
        self.check(spot(0, "1/3"), spot("1/7", 0), DIAMOND, 0)
        self.check(spot(0, 3), spot(3, "1/1000000"), DIAMOND, "3000000/5999999")

    def test_it_is_zero_exactly_if_they_are_not_apart(self):
        for k in (10 ** 9, 10 ** 40):
            tiny = Fraction(1, k)
            self.check(spot(1 + tiny, 0), spot(1 + tiny, 9), SQUARE, tiny)
            self.check(spot(1, 0), spot(1 + tiny, 9), SQUARE, 0)
            self.check(spot(2 + tiny, 0), spot(0, 2 + tiny), DIAMOND, tiny / 2)

    def test_large_numbers(self):
        self.check(spot(10 ** 30, 0), spot(10 ** 30 + 1, -(10 ** 31)), SQUARE, 10 ** 30 - 1)
        self.check(spot(0, 7), spot(1, 7), box(-4000, -4000, 4000, 0), 7)

    def test_however_they_lie(self):
        a, b, piece = spot("1/2", 5), spot(4, "7/3"), ((-3, 0), (1, -2), (2, 0), (1, 3), (-2, 2))
        expected = slow_distance(a, b, piece)
        for sx, sy, swapped in product((1, -1), (1, -1), (False, True)):
            def change(corner, sx=sx, sy=sy, swapped=swapped):
                x, y = sx * corner[0], sy * corner[1]
                return (y, x) if swapped else (x, y)
            ends = [spot(*change(exact(p))) for p in (a, b)]
            self.check(*ends, wrapped([change(corner) for corner in piece]), expected)

    def test_pieces_that_are_grown(self):
        """The distance is d exactly if a piece that is grown by d is met, and one that is grown by less is not."""
        chance = random.Random(281)
        for _ in range(200):
            piece = some_piece(chance, -4, 4)
            a, b = (spot(chance.randint(-9, 9), Fraction(chance.randint(-18, 18), 2)) for _ in range(2))
            n, d = distance(a, b, piece)
            for fine in (d, 7 * d):
                many, far = fine * 2, n * 2 * (fine // d)
                large = tuple((many * x, many * y) for x, y in piece)
                self.assertTrue(meets(times(many, a), times(many, b), grown(large, far)))
                if n:
                    self.assertFalse(meets(times(many, a), times(many, b), grown(large, far - 1)))

    def test_by_chance(self):
        chance = random.Random(28)
        told = {True: 0, False: 0}
        for _ in range(600):
            piece = some_piece(chance, -4, 4)
            a, b = (spot(Fraction(chance.randint(-24, 24), chance.randint(1, 4)), chance.randint(-8, 8)) for _ in range(2))
            if chance.random() < 0.2:
                b = a
            told[distance(a, b, piece) == (0, 1)] += 1
            self.check(a, b, piece)
        self.assertGreater(min(told.values()), 50)

    def test_each_is_defined_in_its_file(self):
        for name in ("distance", "distance_paper", "takes_distance", "margin"):
            self.assertEqual(getattr(margins, name).__module__, "roomyway.margins")


class Judge(Case):

    def judge(self, paper, a, b, piece, d, expected):
        with self.subTest(paper=paper, a=a, b=b, piece=piece, d=d):
            before = repr(paper)
            self.assertIs(takes_distance(paper, a, b, piece, d), expected)
            self.assertEqual(is_paper(paper, a, b, piece, d), expected)
            self.assertEqual(repr(paper), before)

    def test_all_right_papers(self):
        a, b, d = spot(3, -1), spot(3, 4), (2, 1)
        for u in ((1, 0), (2, 0), (7, 0), (10 ** 12, 0)):
            for y, other in ((0, 0), (1, 1), ("1/3", "2/3"), (-1, "1/2"), (3, 1), (2, 0), ("5/2", "1/2"), (0, 1)):
                self.judge((u, spot(3, y), spot(1, other)), a, b, SQUARE, d, True)
        # Corner to corner several directions show the same distance.
        p = spot(3, 3)
        for u in ((1, 0), (0, 1), (1, 1), (1, 2), (5, 3)):
            self.judge((u, p, spot(1, 1)), p, p, SQUARE, (2, 1), True)
        self.judge(((0, 1), p, spot(0, 1)), p, p, SQUARE, (2, 1), False)
        self.judge(((1, -1), p, spot(1, 1)), p, p, SQUARE, (2, 1), False)

    def test_wrong_directions(self):
        a, b, d = spot(3, -1), spot(3, 4), (2, 1)
        for u in ((0, 0), (-1, 0), (0, 1), (0, -1), (1, 1), (1, -1), (5, 1), (1000, 1)):
            self.judge((u, spot(3, 0), spot(1, 0)), a, b, SQUARE, d, False)
        self.judge(((0, 0), spot(1, 0), spot(1, 0)), spot(1, 0), spot(1, 0), SQUARE, (0, 1), False)

    def test_points_that_are_not_theirs(self):
        a, b, d = spot(3, -1), spot(3, 4), (2, 1)
        for p, q in (
            (spot(3, 5), spot(1, 1)), (spot(3, -2), spot(1, 0)), (spot(3, "4001/1000"), spot(1, 1)),
            (spot(3, 0), spot(1, -1)), (spot(3, 2), spot(1, 2)), (spot(4, 0), spot(2, 0)), (spot(2, 0), spot(0, 0)),
            (spot(3, 0), spot(1, "-1/1000")), (spot(1, 0), spot(3, 0)),
        ):
            self.judge(((1, 0), p, q), a, b, SQUARE, d, False)

    def test_points_that_are_not_nearest(self):
        a, b, d = spot(3, -1), spot(3, 4), (2, 1)
        for p, q in ((spot(3, 4), spot(1, 1)), (spot(3, 0), spot(0, 0)), (spot(3, 0), spot("999/1000", 0))):
            self.judge(((1, 0), p, q), a, b, SQUARE, d, False)
            self.judge(((1, 0), p, q), a, b, SQUARE, (3, 1), False)

    def test_wrong_distances(self):
        a, b = spot(3, -1), spot(3, 4)
        paper = ((1, 0), spot(3, 0), spot(1, 0))
        self.judge(paper, a, b, SQUARE, (2, 1), True)
        for d in ((0, 1), (-2, 1), (-1, 1), (1, 1), (3, 1), (5, 2), (2001, 1000), (1999, 1000), (1, 2)):
            self.judge(paper, a, b, SQUARE, d, False)

    def test_what_is_not_apart(self):
        a, b = spot(-3, 0), spot(3, 0)
        for d in ((0, 1), (1, 1), (-1, 1), (2, 1)):
            for u, p, q in product(((1, 0), (-1, 0), (0, 1)), (spot(1, 0), spot(3, 0)), (spot(1, 0), spot(0, 0))):
                self.judge((u, p, q), a, b, SQUARE, d, False)

    def test_what_only_touches(self):
        touching = spot(1, 0)
        for d in ((0, 1), (-1, 1), (1, 1)):
            self.judge(((1, 0), touching, touching), touching, spot(3, 0), SQUARE, d, False)
            self.judge(((1, 0), touching, touching), touching, touching, ((1, 0),), d, False)

    def test_another_stretch_or_piece(self):
        paper = ((1, 0), spot(3, 0), spot(1, 0))
        self.judge(paper, spot(3, 0), spot(9, 0), SQUARE, (2, 1), True)
        self.judge(paper, spot(3, 0), spot("5/2", 9), SQUARE, (2, 1), False)
        self.judge(paper, spot(3, 0), spot(3, 0), ((0, 0), (1, 0)), (2, 1), True)
        self.judge(paper, spot(3, 0), spot(3, 0), box(0, 0, 2, 1), (2, 1), False)
        self.judge(paper, spot(3, 0), spot(3, 0), ((0, 0), (1, 1)), (2, 1), False)

    def test_by_chance(self):
        chance = random.Random(280)
        told = {True: 0, False: 0}
        for _ in range(1500):
            piece = some_piece(chance, -3, 3)
            a, b = (spot(chance.randint(-6, 6), chance.randint(-6, 6)) for _ in range(2))
            paper, d = distance_paper(a, b, piece), distance(a, b, piece)
            u, p, q = paper or ((1, 0), a, b)
            kind = chance.randrange(5)
            if kind == 0:
                u = (chance.randint(-2, 2), chance.randint(-2, 2))
            elif kind == 1:
                p = spot(*at(exact(a), exact(b), Fraction(chance.randint(-1, 5), 4)))
            elif kind == 2:
                q = spot(*chance.choice(piece))
            elif kind == 3:
                d = chance.choice((d, (d[0] + d[1], d[1]), number(Fraction(*d) / 2), number(-Fraction(*d))))
            expected = is_paper((u, p, q), a, b, piece, d)
            told[expected] += 1
            self.assertIs(takes_distance((u, p, q), a, b, piece, d), expected)
        self.assertGreater(min(told.values()), 100)


class Margins(Case):

    def check_margin(self, room, way, expected=None):
        slow = min(slow_distance(a, b, region) for a, b in stretches_of(way) for region in regions_of(room, "mover"))
        found = margin(room, "mover", way)
        self.check_number(found)
        self.assertEqual(found, number(slow))
        if expected is not None:
            self.assertEqual(found, number(expected))
        return slow

    def test_margins(self):
        # The region of the wall goes from (7, -6) to (9, 7), and places end at (19, 9).
        self.check_margin(AROUND, (LEFT, spot(8, 8), RIGHT), "1/3")
        self.check_margin(AROUND, (spot(2, 2), spot(5, 2)), 2)
        self.check_margin(AROUND, (spot(2, 2), spot("13/2", 2)), "1/2")
        self.check_margin(AROUND, (spot(2, 2), spot(2, "26/3")), "1/3")
        self.check_margin(a_room(20, 10, body=(POINT,)), (spot(3, 5), spot(17, 5)), 3)

    def test_ways_of_one_point(self):
        self.check_margin(AROUND, (LEFT,), 2)
        self.check_margin(AROUND, (LEFT, LEFT), 2)
        self.check_margin(AROUND, (spot("27/4", 2),), "1/4")
        self.check_margin(AROUND, (spot("1/1000", 2),), "1/1000")

    def test_each_stretch_and_each_region_counts(self):
        way = (spot(2, 2), spot(5, 2), spot(5, 5), spot(3, 4), spot(4, 4))
        self.check_margin(AROUND, way, 2)
        for k in range(len(way) + 1):
            self.check_margin(AROUND, way[:k] + (spot("27/4", 4),) + way[k:], "1/4")
        room = a_room(20, 10, walls=[(box(8, -5, 9, 7),)], doors=[(((2, 8),),)], body=(SQUARE, ((0, 3),), ((2, 2),)))
        for x, y, expected in ((3, 2, 2), (3, 4, 1), ("5/2", "9/2", "1/2"), ("11/2", 2, "1/2"), (3, "20/3", "1/3")):
            self.check_margin(room, (spot(x, y),), expected)

    def test_open_doors_do_not_count(self):
        room = a_room(20, 10, doors=[(((5, 5),),)], body=(POINT,))
        self.check_margin(room, (spot(4, 5),), 1)
        room.open_door("a")
        self.check_margin(room, (spot(4, 5),), 4)

    def test_each_case(self):
        for name, (room, start, goal, is_there) in CASES.items():
            with self.subTest(name=name):
                way = find_way(room, "mover", start, goal) if is_there else (start,)
                self.assertGreater(self.check_margin(room, way), 0)

    def test_however_the_room_lies(self):
        way = (LEFT, spot(8, "15/2"), spot(9, 8), RIGHT)
        expected = margin(AROUND, "mover", way)
        for kind, change in changes(AROUND).items():
            moved = tuple(moved_place(change, p) for p in way)
            scale = 3 if kind == "three times" else 1
            self.check_margin(turned(AROUND, change), moved, scale * Fraction(*expected))

    def test_a_narrow_gap(self):
        room = near_the_line((523, 320), (997, 610))
        way = find_way(room, "mover", spot(10, 300), spot(990, 690))
        self.assertLess(self.check_margin(room, way), Fraction(1, 100))

    def test_all_may_come_nearer_by_less(self):
        """The way stays free in a room whose walls, doors and frame have come nearer, and touches if by the margin."""
        chance = random.Random(282)
        many = 0
        while many < 25:
            room = some_room(chance)
            free = some_free_places(chance, room)
            if len(free) < 2 or len(regions_of(room, "mover")) > 60:
                continue
            way = find_way(room, "mover", *free[:2])
            if way is None:
                way = (free[0],)
            many += 1
            n, d = margin(room, "mover", way)
            scale = 2 * d
            for far, expected in ((2 * n - 1, False), (2 * n, True)):
                around = [tuple((scale * x, scale * y) for x, y in region) for region in regions_of(room, "mover")]
                around = [grown(region, far) for region in around]
                ends = [(times(scale, a), times(scale, b)) for a, b in stretches_of(way)]
                self.assertEqual(any(meets(a, b, region) for a, b in ends for region in around), expected)

    def test_a_room_with_thicker_walls(self):
        room = a_room(20, 10, walls=[(box(8, -5, 9, 4),)])
        way = (spot(3, 6), spot(16, 6))
        self.check_margin(room, way, 2)
        thick = a_room(20, 10, walls=[(box(7, -6, 10, 5),)])
        self.assertTrue(is_free_way(thick, "mover", *way, way))
        thicker = a_room(20, 10, walls=[(box(6, -7, 11, 6),)])
        self.assertFalse(is_free_way(thicker, "mover", *way, way))

    def test_unknown_bodies(self):
        for name in ("a", "movers", ""):
            with self.assertRaises(UnknownThing):
                margin(AROUND, name, (LEFT,))


if __name__ == "__main__":
    unittest.main()
