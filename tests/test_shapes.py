"""Points 6, 7 and 8: pieces, hulls, sums, and the points that pieces have."""

import random
import unittest
from fractions import Fraction
from itertools import permutations, product

from helpers import SQUARE, box, exact, has, has_inside, is_proper, spot, wrapped

from roomyway import shapes
from roomyway.errors import TooLarge
from roomyway.shapes import hull, is_in, is_inside, is_piece, shifted, sum_of, turned_over

TRIANGLE = ((0, 0), (4, 1), (1, 3))
OCTAGON = ((0, 1), (1, 0), (2, 0), (3, 1), (3, 2), (2, 3), (1, 3), (0, 2))
SEGMENT = ((0, 2), (3, 0))
UPRIGHT = ((1, -2), (1, 2))
LEVEL = ((-1, 1), (2, 1))
DOT = ((2, 1),)
PIECES = [TRIANGLE, SQUARE, OCTAGON, SEGMENT, UPRIGHT, LEVEL, DOT, ((-3, -1), (0, -2), (-1, 5)), box(-2, 0, 2, 1)]
FAR = 10 ** 20


def bow(many):
    """A piece of that many corners."""
    return tuple((k, k * k) for k in range(many))


def slanted(piece):
    """A piece like another one, turned and larger, so that its sides are not parallel to those of the other one."""
    return wrapped([(13 * x - y, 13 * y + x) for x, y in piece])


class Names(unittest.TestCase):

    def test_each_is_defined_in_its_file(self):
        for name in ("is_piece", "hull", "sum_of", "turned_over", "shifted", "is_in", "is_inside"):
            with self.subTest(name=name):
                self.assertEqual(getattr(shapes, name).__module__, "roomyway.shapes")


class Hulls(unittest.TestCase):

    def check(self, corners):
        before = list(corners)
        piece = hull(corners)
        self.assertEqual(corners, before)
        self.assertIs(type(piece), tuple)
        self.assertTrue(is_proper(piece), piece)
        self.assertLessEqual(set(piece), set(corners))
        self.assertTrue(all(has(piece, corner) for corner in corners), (corners, piece))
        self.assertEqual(piece, wrapped(corners))

    def test_in_any_order(self):
        for corners in permutations([(0, 0), (4, 0), (4, 2), (0, 2), (1, 1)]):
            with self.subTest(corners=corners):
                self.assertEqual(hull(list(corners)), ((0, 0), (4, 0), (4, 2), (0, 2)))

    def test_with_doubles(self):
        self.assertEqual(hull([(1, 3), (0, 0), (4, 1), (0, 0), (1, 3), (1, 3)]), TRIANGLE)

    def test_all_equal(self):
        self.assertEqual(hull([(5, -7)]), ((5, -7),))
        self.assertEqual(hull([(5, -7)] * 40), ((5, -7),))

    def test_all_on_one_line(self):
        for along, up in ((1, 0), (0, 1), (1, 1), (1, -1), (2, -3), (-3, -1)):
            line = [(3 + k * along, -2 + k * up) for k in range(-3, 4)]
            for corners in (line, line[::-1], line + line, line[3:] + line[:3]):
                with self.subTest(corners=corners):
                    self.assertEqual(hull(corners), (min(line), max(line)))

    def test_many_on_the_sides(self):
        rim = [(x, y) for x, y in product(range(6), repeat=2) if x in (0, 5) or y in (0, 5)]
        self.assertEqual(hull(rim), box(0, 0, 5, 5))
        self.assertEqual(hull(list(product(range(6), repeat=2))[::-1]), box(0, 0, 5, 5))
        rim = [(0, 0), (1, 1), (2, 2), (3, 3), (1, 2), (2, 3), (0, 3), (0, 1)]
        self.assertEqual(hull(rim), ((0, 0), (3, 3), (0, 3)))

    def test_begins_with_the_least_one(self):
        self.assertEqual(hull([(0, 3), (2, 0), (0, 1), (2, 5)]), ((0, 1), (2, 0), (2, 5), (0, 3)))
        self.assertEqual(hull([(1, -9), (0, 3), (2, 2)]), ((0, 3), (1, -9), (2, 2)))

    def test_all_sets_of_corners_of_a_small_grid(self):
        grid = list(product(range(3), repeat=2))
        for chosen in range(1, 2 ** len(grid)):
            self.check([corner for k, corner in enumerate(grid) if chosen >> k & 1])

    def test_many_sets_of_corners(self):
        chance = random.Random(6)
        for far in (1, 2, 3, 5, 40, FAR):
            for _ in range(60):
                many = chance.randint(1, 14)
                self.check([(chance.randint(-far, far), chance.randint(-far, far)) for _ in range(many)])

    def test_the_most_corners(self):
        full = list(bow(24))
        self.assertEqual(hull(full[::-1]), bow(24))
        self.assertEqual(hull(full + full + [(2, 5), (9, 90), (22, 500)]), bow(24))

    def test_too_many_corners(self):
        for many in (25, 26, 60):
            with self.subTest(many=many):
                corners = list(bow(many))
                with self.assertRaises(TooLarge):
                    hull(corners)
                self.assertEqual(corners, list(bow(many)))


class IsPiece(unittest.TestCase):

    def check(self, thing, expected):
        with self.subTest(thing=thing):
            self.assertIs(is_piece(thing), expected)

    def test_pieces(self):
        for piece in PIECES + [bow(3), bow(24), ((10000, -10000),), box(-10000, -10000, 10000, 10000)]:
            self.check(piece, True)

    def test_points_and_segments(self):
        self.check(((3, 4),), True)
        self.check(((3, 4), (3, 5)), True)
        self.check(((3, 5), (3, 4)), False)
        self.check(((3, 4), (4, -5)), True)
        self.check(((4, -5), (3, 4)), False)
        self.check(((3, 4), (3, 4)), False)

    def test_turned_round(self):
        for piece in (TRIANGLE, SQUARE, OCTAGON):
            self.check(piece[:1] + piece[:0:-1], False)
            self.check(piece[::-1], False)

    def test_another_beginning(self):
        for piece in (TRIANGLE, SQUARE, OCTAGON):
            for k in range(1, len(piece)):
                self.check(piece[k:] + piece[:k], False)

    def test_a_corner_too_many(self):
        for piece in (TRIANGLE, box(0, 0, 4, 4), ((0, 0), (4, 0))):
            for k in range(1, len(piece) + 1):
                for extra in piece + ((2, 0), (2, 2), (2, 1), (4, 2)):
                    if has(piece, extra):
                        self.check(piece[:k] + (extra,) + piece[k:], False)

    def test_all_on_one_line(self):
        self.check(((0, 0), (1, 1), (2, 2)), False)
        self.check(((0, 0), (2, 2), (1, 1)), False)
        self.check(((0, 0), (0, 1), (0, 3), (0, 2)), False)

    def test_not_convex(self):
        self.check(((0, 0), (4, 0), (1, 1), (0, 4)), False)
        self.check(((0, 0), (4, 4), (4, 0), (0, 4)), False)

    def test_twice_around(self):
        # Each turn of a star is 1, but it is no convex polygon.
        star = ((-10, 3), (10, 3), (-6, -9), (0, 10), (6, -9))
        self.assertFalse(is_proper(star))
        self.check(star, False)
        self.check(TRIANGLE + TRIANGLE, False)

    def test_every_tuple_of_corners_of_a_small_grid(self):
        grid = list(product(range(3), range(2)))
        for many in range(1, 5):
            for thing in product(grid, repeat=many):
                self.assertIs(is_piece(thing), is_proper(thing), thing)

    def test_too_many_corners(self):
        self.check(bow(24), True)
        self.check(bow(25), False)
        self.check(bow(40), False)
        self.check((), False)

    def test_beyond_the_range(self):
        for far in (10001, -10001, FAR):
            self.check(((far, 0),), False)
            self.check(((0, far),), False)
            self.check(hull([(0, 0), (far, 0), (0, far)]), False)

    def test_other_coordinates(self):
        for part in (True, False, 1.0, 0.0, "1", None, (1,), Fraction(1), [1]):
            self.check(((part, 0),), False)
            self.check(((0, part),), False)
            self.check(((0, 0), (1, 0), (1, part)), False)
        self.check(((False, False), (True, False), (True, True), (False, True)), False)

    def test_other_corners(self):
        for corner in ([0, 0], (0,), (0, 0, 0), (), "ab", None, 0, {0: 1, 1: 2}):
            self.check((corner,), False)
            self.check((corner, (1, 1)), False)

    def test_other_things(self):
        for thing in (
            [(0, 0)], list(SQUARE), None, True, False, 0, 7, "", "square", b"ab", {}, {(0, 0): True}, {(0, 0)}, (0, 0),
            object(), 1.5, iter(SQUARE), range(2), ("ab",), (SQUARE,), frozenset(SQUARE),
        ):
            self.check(thing, False)


class Sums(unittest.TestCase):

    def test_sums(self):
        self.assertEqual(sum_of(SQUARE, ((0, 0),)), SQUARE)
        self.assertEqual(sum_of(((2, 3),), ((-1, 5),)), ((1, 8),))
        self.assertEqual(sum_of(SQUARE, ((5, 7),)), box(5, 7, 6, 8))
        self.assertEqual(sum_of(((0, 0), (2, 0)), ((1, 1), (1, 4))), box(1, 1, 3, 4))
        self.assertEqual(sum_of(((0, 0), (2, 1)), ((0, 0), (4, 2))), ((0, 0), (6, 3)))
        self.assertEqual(sum_of(SQUARE, box(-2, -3, 4, 5)), box(-2, -3, 5, 6))
        self.assertEqual(sum_of(SQUARE, ((0, 0), (1, 1))), ((0, 0), (1, 0), (2, 1), (2, 2), (1, 2), (0, 1)))

    def test_each_is_the_hull_of_the_sums_of_corners(self):
        for first, second in product(PIECES, repeat=2):
            with self.subTest(first=first, second=second):
                sums = [(ax + bx, ay + by) for ax, ay in first for bx, by in second]
                self.assertEqual(sum_of(first, second), wrapped(sums))
                self.assertEqual(sum_of(second, first), wrapped(sums))

    def test_far_corners(self):
        self.assertEqual(sum_of(box(-FAR, 0, FAR, 9), box(0, 0, FAR, 1)), box(-FAR, 0, 2 * FAR, 10))

    def test_too_many_corners(self):
        self.assertEqual(len(sum_of(bow(12), slanted(bow(12)))), 24)
        for first, second in ((bow(12), bow(13)), (bow(13), bow(12)), (bow(24), bow(24))):
            with self.assertRaises(TooLarge):
                sum_of(first, slanted(second))
        self.assertEqual(sum_of(bow(24), bow(24)), hull([(2 * x, 2 * y) for x, y in bow(24)]))


class TurnedAndShifted(unittest.TestCase):

    def test_turned_over(self):
        self.assertEqual(turned_over(((3, -4),)), ((-3, 4),))
        self.assertEqual(turned_over(((0, 2), (3, 0))), ((-3, 0), (0, -2)))
        self.assertEqual(turned_over(((1, -2), (1, 2))), ((-1, -2), (-1, 2)))
        self.assertEqual(turned_over(SQUARE), box(-1, -1, 0, 0))
        self.assertEqual(turned_over(TRIANGLE), ((-4, -1), (-1, -3), (0, 0)))

    def test_shifted(self):
        self.assertEqual(shifted(((3, -4),), (1, 1)), ((4, -3),))
        self.assertEqual(shifted(SEGMENT, (-5, 2)), ((-5, 4), (-2, 2)))
        self.assertEqual(shifted(SQUARE, (0, 0)), SQUARE)
        self.assertEqual(shifted(SQUARE, (-1, -1)), box(-1, -1, 0, 0))

    def test_all_pieces(self):
        for piece in PIECES + [bow(24), box(-FAR, -FAR, FAR, FAR)]:
            with self.subTest(piece=piece):
                self.assertEqual(turned_over(piece), wrapped([(-x, -y) for x, y in piece]))
                self.assertEqual(turned_over(turned_over(piece)), piece)
                for dx, dy in ((0, 0), (3, -4), (-7, 2), (FAR, -FAR)):
                    moved = shifted(piece, (dx, dy))
                    self.assertEqual(moved, tuple((x + dx, y + dy) for x, y in piece))
                    self.assertTrue(is_proper(moved))


class PointsOfPieces(unittest.TestCase):

    def check(self, p, piece, is_one, is_inner):
        with self.subTest(p=p, piece=piece):
            self.assertIs(is_in(p, piece), is_one)
            self.assertIs(is_inside(p, piece), is_inner)

    def test_square(self):
        piece = box(0, 0, 2, 2)
        self.check(spot(1, 1), piece, True, True)
        self.check(spot("1/3", "1/1000"), piece, True, True)
        self.check(spot(0, 0), piece, True, False)
        self.check(spot(2, 2), piece, True, False)
        self.check(spot("1/3", 0), piece, True, False)
        self.check(spot(2, "3/2"), piece, True, False)
        self.check(spot("-1/1000", 1), piece, False, False)
        self.check(spot(2, "2001/1000"), piece, False, False)
        self.check(spot(4, 0), piece, False, False)
        self.check(spot(3, 3), piece, False, False)

    def test_slanted_sides(self):
        self.check(spot(2, "1/2"), TRIANGLE, True, False)
        self.check(spot(2, "50001/100000"), TRIANGLE, True, True)
        self.check(spot(2, "49999/100000"), TRIANGLE, False, False)
        self.check(spot(8, 2), TRIANGLE, False, False)

    def test_segment(self):
        piece = ((0, 0), (4, 2))
        self.check(spot(0, 0), piece, True, False)
        self.check(spot(4, 2), piece, True, False)
        self.check(spot("1/3", "1/6"), piece, True, False)
        self.check(spot("1/3", "1/7"), piece, False, False)
        self.check(spot(6, 3), piece, False, False)
        self.check(spot(-2, -1), piece, False, False)

    def test_point(self):
        self.check(spot(2, 1), DOT, True, False)
        self.check(spot(2, "3/2"), DOT, False, False)
        self.check(spot("3/2", 1), DOT, False, False)
        self.check(spot(0, 0), DOT, False, False)

    def test_all_pieces_and_points(self):
        thirds = [spot(Fraction(x, 3), Fraction(y, 2)) for x in range(-10, 14) for y in range(-5, 11)]
        for piece in PIECES:
            for p in thirds:
                self.assertIs(is_in(p, piece), has(piece, exact(p)), (p, piece))
                self.assertIs(is_inside(p, piece), has_inside(piece, exact(p)), (p, piece))

    def test_far_corners(self):
        piece = box(-FAR, -FAR, FAR, FAR)
        self.check(spot(FAR, 0), piece, True, False)
        self.check(spot(FAR - Fraction(1, FAR), 0), piece, True, True)
        self.check(spot(FAR + Fraction(1, FAR), 0), piece, False, False)


class Again(unittest.TestCase):
    """Points 2 and 3."""

    def test_the_same_again(self):
        asked = [(first, second) for first, second in product(PIECES, repeat=2)]
        before = [(sum_of(*pair), turned_over(pair[0])) for pair in asked]
        after = [(sum_of(*pair), turned_over(pair[0])) for pair in asked[::-1]]
        self.assertEqual(after[::-1], before)

    def test_the_list_is_not_kept(self):
        corners = [(0, 0), (1, 0), (0, 1)]
        piece = hull(corners)
        corners.append((-5, -5))
        corners[0] = (9, 9)
        self.assertEqual(piece, ((0, 0), (1, 0), (0, 1)))


if __name__ == "__main__":
    unittest.main()
