"""Point 9: segments and pieces that are apart or meet, the lines and points that show it, and entering."""

import random
import unittest
from fractions import Fraction
from itertools import product
from math import gcd

from helpers import SQUARE, box, exact, goes_inside, has, is_line, meets, spot, wrapped

from roomyway import meeting
from roomyway.meeting import are_apart, common_point, enters, is_line_between, line_between

TRIANGLE = ((0, 0), (4, 1), (1, 3))
SEGMENT = ((0, 2), (3, 0))
OCTAGON = ((0, 1), (1, 0), (2, 0), (3, 1), (3, 2), (2, 3), (1, 3), (0, 2))
PIECES = [TRIANGLE, box(0, 0, 2, 2), OCTAGON, SEGMENT, ((1, 0), (1, 2)), ((0, 1), (2, 1)), ((1, 1),), ((2, 0),)]
SPOTS = [spot(Fraction(x, 2), Fraction(y, 2)) for x, y in product(range(-1, 6), repeat=2)]
FAR = 10 ** 15


class Meeting(unittest.TestCase):

    def check(self, a, b, piece):
        """Compare all that is told of a segment and a piece with the words of the document."""
        do_meet = meets(a, b, piece)
        line = line_between(a, b, piece)
        common = common_point(a, b, piece)
        why = (a, b, piece)
        self.assertIs(are_apart(a, b, piece), not do_meet, why)
        self.assertIs(enters(a, b, piece), goes_inside(a, b, piece), why)
        self.assertEqual((line is None, common is None), (do_meet, not do_meet), why)
        if do_meet:
            self.check_number(common[0])
            self.check_number(common[1])
            self.assertTrue(has(piece, exact(common)), why)
            self.assertTrue(has_segment(a, b, common), why)
        else:
            (u, v), c = line
            self.assertEqual((type(line), type(line[0]), type(u), type(v)), (tuple, tuple, int, int))
            self.check_number(c)
            self.assertTrue(is_line(line, a, b, piece), why)
            self.assertIs(is_line_between(line, a, b, piece), True, why)

    def check_number(self, value):
        self.assertIs(type(value), tuple)
        self.assertEqual([type(part) for part in value], [int, int])
        self.assertGreaterEqual(value[1], 1)
        self.assertEqual(gcd(*value), 1)

    def told(self, a, b, piece):
        """Whether both are apart and whether the segment enters the piece, after all of it was compared."""
        self.check(a, b, piece)
        self.check(b, a, piece)
        return are_apart(a, b, piece), enters(a, b, piece)

    def test_each_is_defined_in_its_file(self):
        for name in ("are_apart", "line_between", "common_point", "is_line_between", "enters"):
            with self.subTest(name=name):
                self.assertEqual(getattr(meeting, name).__module__, "roomyway.meeting")

    def test_through_the_inside(self):
        piece = box(0, 0, 2, 2)
        self.assertEqual(self.told(spot(-1, 1), spot(3, 1), piece), (False, True))
        self.assertEqual(self.told(spot(1, 1), spot(3, 1), piece), (False, True))
        self.assertEqual(self.told(spot("1/2", "1/2"), spot(1, 1), piece), (False, True))
        self.assertEqual(self.told(spot(0, 1), spot(2, "1/2"), piece), (False, True))
        self.assertEqual(self.told(spot(0, 0), spot(2, 2), piece), (False, True))
        self.assertEqual(self.told(spot(0, "1/1000"), spot("1/1000", 0), piece), (False, True))

    def test_up_to_the_rim(self):
        piece = box(0, 0, 2, 2)
        self.assertEqual(self.told(spot(-1, 1), spot(0, 1), piece), (False, False))
        self.assertEqual(self.told(spot(-1, 1), spot("1/1000", 1), piece), (False, True))
        self.assertEqual(self.told(spot(-1, 1), spot("-1/1000", 1), piece), (True, False))

    def test_along_a_side(self):
        for piece in (box(0, 0, 2, 2), ((0, 0), (2, 0), (1, 5))):
            self.assertEqual(self.told(spot(-1, 0), spot(3, 0), piece), (False, False))
            self.assertEqual(self.told(spot("1/2", 0), spot(1, 0), piece), (False, False))
            self.assertEqual(self.told(spot(0, 0), spot(2, 0), piece), (False, False))
            self.assertEqual(self.told(spot(-1, 0), spot(0, 0), piece), (False, False))
            self.assertEqual(self.told(spot(-1, 0), spot("-1/1000", 0), piece), (True, False))
            self.assertEqual(self.told(spot(3, 0), spot("2001/1000", 0), piece), (True, False))

    def test_through_a_corner_only(self):
        piece = box(0, 0, 2, 2)
        self.assertEqual(self.told(spot(-1, 1), spot(1, -1), piece), (False, False))
        self.assertEqual(self.told(spot(1, 3), spot(3, 1), piece), (False, False))
        self.assertEqual(self.told(spot(0, 0), spot(-1, -1), piece), (False, False))
        self.assertEqual(self.told(spot(-1, "999/1000"), spot(1, -1), piece), (True, False))
        self.assertEqual(self.told(spot(-1, "1001/1000"), spot(1, -1), piece), (False, True))

    def test_single_points(self):
        piece = box(0, 0, 2, 2)
        self.assertEqual(self.told(spot(1, 1), spot(1, 1), piece), (False, True))
        self.assertEqual(self.told(spot(1, "1/1000"), spot(1, "1/1000"), piece), (False, True))
        self.assertEqual(self.told(spot(1, 0), spot(1, 0), piece), (False, False))
        self.assertEqual(self.told(spot(0, 0), spot(0, 0), piece), (False, False))
        self.assertEqual(self.told(spot(1, "-1/1000"), spot(1, "-1/1000"), piece), (True, False))
        self.assertEqual(self.told(spot(3, 0), spot(3, 0), piece), (True, False))

    def test_a_segment_as_the_piece(self):
        piece = ((0, 0), (4, 2))
        self.assertEqual(self.told(spot(0, 2), spot(4, 0), piece), (False, False))
        self.assertEqual(self.told(spot(-2, -1), spot(6, 3), piece), (False, False))
        self.assertEqual(self.told(spot(1, "1/2"), spot(2, 1), piece), (False, False))
        self.assertEqual(self.told(spot(4, 2), spot(5, 0), piece), (False, False))
        self.assertEqual(self.told(spot(6, 3), spot(8, 4), piece), (True, False))
        self.assertEqual(self.told(spot(-6, -3), spot("-2/1000", "-1/1000"), piece), (True, False))
        self.assertEqual(self.told(spot(0, 1), spot(4, 3), piece), (True, False))
        self.assertEqual(self.told(spot(2, 1), spot(2, 1), piece), (False, False))
        self.assertEqual(self.told(spot(2, "1001/1000"), spot(2, "1001/1000"), piece), (True, False))
        self.assertEqual(self.told(spot(6, 3), spot(6, 3), piece), (True, False))

    def test_a_point_as_the_piece(self):
        piece = ((2, 1),)
        self.assertEqual(self.told(spot(0, 0), spot(4, 2), piece), (False, False))
        self.assertEqual(self.told(spot(2, 1), spot(4, 2), piece), (False, False))
        self.assertEqual(self.told(spot(2, 1), spot(2, 1), piece), (False, False))
        self.assertEqual(self.told(spot(0, 0), spot("1999/1000", "1999/2000"), piece), (True, False))
        self.assertEqual(self.told(spot(4, 2), spot(6, 3), piece), (True, False))
        self.assertEqual(self.told(spot(0, 0), spot(4, "2001/1000"), piece), (True, False))
        self.assertEqual(self.told(spot(2, 0), spot(2, 0), piece), (True, False))
        self.assertEqual(self.told(spot(3, 3), spot(3, 3), piece), (True, False))

    def test_all_segments_of_a_grid(self):
        for piece in PIECES:
            for a, b in product(SPOTS[::2], repeat=2):
                self.check(a, b, piece)

    def test_many_segments_and_pieces(self):
        chance = random.Random(9)
        for _ in range(1200):
            many = chance.choice((1, 2, 3, 3, 6, 9))
            far = chance.choice((2, 3, 6, 30))
            piece = wrapped([(chance.randint(-far, far), chance.randint(-far, far)) for _ in range(many)])
            below = chance.choice((1, 2, 3, 7))
            a, b = [spot(*[Fraction(chance.randint(-far * below, far * below), below) for _ in "xy"]) for _ in "ab"]
            self.check(a, b, piece)
            self.check(a, a, piece)

    def test_far_corners_and_narrow_gaps(self):
        piece = ((0, 0), (FAR, FAR - 1), (0, FAR))
        near = Fraction(1, FAR ** 2)
        a, b = spot(near, 0), spot(FAR + near, FAR - 1)
        self.assertEqual(self.told(a, b, piece), (True, False))
        self.assertEqual(self.told(spot(0, 0), spot(FAR, FAR - 1), piece), (False, False))
        self.assertEqual(self.told(spot(0, near), spot(FAR, FAR - 1), piece), (False, True))


class Lines(unittest.TestCase):

    def check(self, line, a, b, piece, expected):
        with self.subTest(line=line):
            self.assertIs(is_line_between(line, a, b, piece), expected)
            self.assertEqual(is_line(line, a, b, piece), expected)

    def test_lines_that_lie_between_or_not(self):
        a, b = spot(2, 0), spot(3, 3)
        for line, expected in (
            (((1, 0), (3, 2)), True),
            (((1, 0), (1000001, 1000000)), True),
            (((1, 0), (1, 1)), False),
            (((1, 0), (2, 1)), False),
            (((1, 0), (1, 2)), False),
            (((1, 0), (5, 2)), False),
            (((-1, 0), (-3, 2)), False),
            (((0, 1), (1, 2)), False),
            (((0, 0), (0, 1)), False),
            (((0, 0), (-1, 1)), False),
            (((3, 0), (9, 2)), True),
            (((3, -1), (4, 1)), True),
            (((3, -1), (3, 1)), False),
            (((3, -1), (6, 1)), False),
            (((3000000, -1), (4000000, 1)), True),
        ):
            self.check(line, a, b, SQUARE, expected)
            self.check(line, b, a, SQUARE, expected)

    def test_one_end_or_one_corner_is_not_enough(self):
        line = ((1, 0), (3, 2))
        self.check(line, spot(2, 0), spot(1, 0), SQUARE, False)
        self.check(line, spot(1, 0), spot(2, 0), SQUARE, False)
        self.check(line, spot(2, 0), spot(2, 0), box(-1, 0, 1, 1), True)
        self.check(line, spot(2, 0), spot(2, 0), ((0, 0), (5, 5)), False)
        self.check(line, spot(2, 0), spot(2, 0), ((5, 0),), False)
        self.check(line, spot(2, 0), spot(2, 0), ((0, 0), (1, 0), (2, 3), (0, 1)), False)

    def test_no_line_lies_between_what_meets(self):
        lines = [((u, v), (c, 2)) for u, v, c in product((-2, -1, 0, 1, 2), (-2, -1, 0, 1, 2), (-3, -1, 1, 3))]
        for line in lines:
            self.check(line, spot(1, 1), spot(2, 2), SQUARE, False)
            self.check(line, spot("1/2", 0), spot("1/2", 0), SQUARE, False)

    def test_all_lines_of_some_kind(self):
        lines = [((u, v), (c, 2)) for u, v, c in product(range(-2, 3), range(-2, 3), range(-7, 8, 2))]
        for a, b, piece in product(SPOTS[::9], SPOTS[::7], PIECES[::3]):
            for line in lines[::5]:
                self.assertIs(is_line_between(line, a, b, piece), is_line(line, a, b, piece))

    def test_a_hair_beside(self):
        near = Fraction(1, FAR)
        a = spot(1 + near, 0)
        self.check(((1, 0), (2 * FAR + 1, 2 * FAR)), a, a, SQUARE, True)
        self.check(((1, 0), (FAR + 1, FAR)), a, a, SQUARE, False)
        self.check(((1, 0), (1, 1)), a, a, SQUARE, False)


def has_segment(a, b, p):
    """Whether the point p lies on the segment from a to b, by the share of the way."""
    a, b, p = exact(a), exact(b), exact(p)
    if a == b:
        return p == a
    square = sum((b[k] - a[k]) ** 2 for k in (0, 1))
    share = sum((b[k] - a[k]) * (p[k] - a[k]) for k in (0, 1)) / square
    return 0 <= share <= 1 and all(a[k] + share * (b[k] - a[k]) == p[k] for k in (0, 1))


if __name__ == "__main__":
    unittest.main()
