"""Points 4 and 5: corners, points, turns and names."""

import unittest
from collections import OrderedDict
from fractions import Fraction
from itertools import product

from roomyway import points
from roomyway.points import is_corner, is_name, is_point, on_segment, point, turn

GRID = [point((x, y)) for x in range(-1, 3) for y in range(-1, 2)]
NUMBERS = [(0, 1), (1, 2), (-2, 3), (5, 7), (3, 1)]
SPOTS = [(x, y) for x in NUMBERS for y in NUMBERS[:3]]
HUGE = 10 ** 32 + 3


def exact(p):
    return Fraction(*p[0]), Fraction(*p[1])


def cross(p, q, r):
    """The cross product of point 4 by Python's own fractions."""
    (px, py), (qx, qy), (rx, ry) = exact(p), exact(q), exact(r)
    return (qx - px) * (ry - py) - (qy - py) * (rx - px)


def sign_of(number):
    return (number > 0) - (number < 0)


def is_on(p, a, b):
    """Whether p lies on the closed segment, by the share of the way from a to b."""
    if a == b:
        return p == a
    (px, py), (ax, ay), (bx, by) = exact(p), exact(a), exact(b)
    square = (bx - ax) ** 2 + (by - ay) ** 2
    share = ((px - ax) * (bx - ax) + (py - ay) * (by - ay)) / square
    return 0 <= share <= 1 and (ax + share * (bx - ax), ay + share * (by - ay)) == (px, py)


class Points(unittest.TestCase):

    def test_point_of_a_corner(self):
        self.assertEqual(point((3, -4)), ((3, 1), (-4, 1)))
        self.assertEqual(point((0, 0)), ((0, 1), (0, 1)))
        self.assertEqual(point((10 ** 30, -10 ** 30)), ((10 ** 30, 1), (-10 ** 30, 1)))

    def test_each_is_defined_in_its_file(self):
        for name in ("point", "turn", "on_segment", "is_name", "is_corner"):
            with self.subTest(name=name):
                self.assertEqual(getattr(points, name).__module__, "roomyway.points")


class Turns(unittest.TestCase):

    def check(self, p, q, r):
        found = turn(p, q, r)
        self.assertIs(type(found), int)
        self.assertEqual(found, sign_of(cross(p, q, r)))

    def test_left_right_and_straight(self):
        p, q = point((0, 0)), point((2, 1))
        self.assertEqual(turn(p, q, point((0, 1))), 1)
        self.assertEqual(turn(p, q, point((1, 0))), -1)
        self.assertEqual(turn(p, q, point((4, 2))), 0)
        self.assertEqual(turn(p, q, point((-2, -1))), 0)

    def test_all_triples_of_a_grid(self):
        for p, q, r in product(GRID, repeat=3):
            with self.subTest(p=p, q=q, r=r):
                self.check(p, q, r)

    def test_all_triples_of_points_with_fractions(self):
        for p, q, r in product(SPOTS, repeat=3):
            with self.subTest(p=p, q=q, r=r):
                self.check(p, q, r)

    def test_on_one_line_with_fractions(self):
        p, q, r = ((1, 3), (1, 2)), ((2, 3), (1, 1)), ((5, 3), (5, 2))
        for a, b, c in product((p, q, r), repeat=3):
            with self.subTest(a=a, b=b, c=c):
                self.assertEqual(turn(a, b, c), 0)

    def test_equal_points(self):
        for p, q in product(SPOTS, repeat=2):
            with self.subTest(p=p, q=q):
                self.assertEqual(turn(p, p, q), 0)
                self.assertEqual(turn(p, q, p), 0)
                self.assertEqual(turn(p, q, q), 0)

    def test_barely_beside_the_line(self):
        p, q = point((0, 0)), point((HUGE, HUGE))
        self.assertEqual(turn(p, q, ((1, 3), (HUGE + 3, 3 * HUGE))), 1)
        self.assertEqual(turn(p, q, ((1, 3), (HUGE - 3, 3 * HUGE))), -1)
        self.assertEqual(turn(p, q, ((1, 3), (1, 3))), 0)


class Segments(unittest.TestCase):

    def test_ends_and_between(self):
        a, b = point((1, 1)), point((5, 3))
        self.assertIs(on_segment(a, a, b), True)
        self.assertIs(on_segment(b, a, b), True)
        self.assertIs(on_segment(point((3, 2)), a, b), True)
        self.assertIs(on_segment(((2, 1), (3, 2)), a, b), True)
        self.assertIs(on_segment(point((3, 2)), b, a), True)

    def test_beyond_and_beside(self):
        a, b = point((1, 1)), point((5, 3))
        self.assertIs(on_segment(point((7, 4)), a, b), False)
        self.assertIs(on_segment(point((-1, 0)), a, b), False)
        self.assertIs(on_segment(((6, 1), (7, 2)), a, b), False)
        self.assertIs(on_segment(point((3, 1)), a, b), False)
        self.assertIs(on_segment(((3, 1), (2 * HUGE + 1, HUGE)), a, b), False)
        self.assertIs(on_segment(((5 * HUGE + 2, HUGE), (3 * HUGE + 1, HUGE)), a, b), False)

    def test_upright_and_level(self):
        low, high = point((2, -1)), point((2, 3))
        self.assertIs(on_segment(point((2, 0)), low, high), True)
        self.assertIs(on_segment(point((2, 4)), low, high), False)
        self.assertIs(on_segment(point((2, -2)), low, high), False)
        self.assertIs(on_segment(point((3, 0)), low, high), False)
        west, east = point((-1, 2)), point((3, 2))
        self.assertIs(on_segment(point((0, 2)), east, west), True)
        self.assertIs(on_segment(point((4, 2)), east, west), False)
        self.assertIs(on_segment(point((-2, 2)), east, west), False)
        self.assertIs(on_segment(point((0, 3)), east, west), False)

    def test_a_single_point(self):
        a = ((1, 2), (-3, 4))
        self.assertIs(on_segment(a, a, a), True)
        self.assertIs(on_segment(((1, 2), (3, 4)), a, a), False)
        self.assertIs(on_segment(((1, 3), (-3, 4)), a, a), False)
        self.assertIs(on_segment(point((0, 0)), a, a), False)

    def test_all_triples_of_a_grid(self):
        for p, a, b in product(GRID, repeat=3):
            with self.subTest(p=p, a=a, b=b):
                self.assertIs(on_segment(p, a, b), is_on(p, a, b))

    def test_all_triples_of_points_with_fractions(self):
        for p, a, b in product(SPOTS, repeat=3):
            with self.subTest(p=p, a=a, b=b):
                self.assertIs(on_segment(p, a, b), is_on(p, a, b))


class Names(unittest.TestCase):

    def test_names(self):
        for text in ("a", "z", "wall", "abcdefghijkl", "mnopqrstuvwx", "yz", "z" * 12):
            with self.subTest(text=text):
                self.assertIs(is_name(text), True)

    def test_texts_that_are_no_names(self):
        for text in (
            "", "a" * 13, "a" * 500, "A", "aB", "Ab", "a1", "1", "a b", " a", "a ", "a\n", "\n", "a-b", "a_b",
            "`", "{", "a{", "`a", "\u00e4", "stra\u00dfe", "\u0430", "a\u0301", "\u00aa", "\x00", "a\x00",
        ):
            with self.subTest(text=text):
                self.assertIs(is_name(text), False)

    def test_every_single_sign(self):
        for code in range(700):
            with self.subTest(code=code):
                self.assertIs(is_name(chr(code)), 97 <= code <= 122)

    def test_things_that_are_no_texts(self):
        for thing in (
            None, True, False, 0, 1, -1, 1.5, b"abc", (), ("a",), ["a"], ("a", "b"), {"a": 1}, {"a"}, object(), str,
            Fraction(1, 2), HUGE,
        ):
            with self.subTest(thing=thing):
                self.assertIs(is_name(thing), False)


class Corners(unittest.TestCase):

    def test_corners(self):
        bounds = (-10000, -9999, -1, 0, 1, 9999, 10000)
        for corner in product(bounds, repeat=2):
            with self.subTest(corner=corner):
                self.assertIs(is_corner(corner), True)

    def test_beyond_the_bounds(self):
        for far in (10001, -10001, HUGE, -HUGE):
            for corner in ((far, 0), (0, far), (far, far), (10000, far), (far, -10000)):
                with self.subTest(corner=corner):
                    self.assertIs(is_corner(corner), False)

    def test_other_parts_than_integers(self):
        for part in (
            None, True, False, 1.0, 0.5, float("nan"), float("inf"), "1", "a", b"1", (1,), (1, 1), [1], {}, object(),
            Fraction(1), 1 + 0j, int,
        ):
            for thing in ((part, 1), (1, part), (part, part)):
                with self.subTest(thing=thing):
                    self.assertIs(is_corner(thing), False)

    def test_other_lengths(self):
        for thing in ((), (1,), (1, 2, 3), (1, 2, None), ((1, 2),), ((1, 2), (3, 4))):
            with self.subTest(thing=thing):
                self.assertIs(is_corner(thing), False)

    def test_other_things(self):
        for thing in (
            None, True, False, 0, 12, -3, 1.5, "ab", "12", b"ab", [1, 2], {1, 2}, {1: 2, 3: 4}, {0: 1, 1: 2},
            OrderedDict([(0, 1), (1, 2)]), range(2), object(), tuple, iter((1, 2)), bytearray(2),
        ):
            with self.subTest(thing=thing):
                self.assertIs(is_corner(thing), False)


class Points(unittest.TestCase):
    """Point 4: numbers in lowest terms, and points."""

    def test_points(self):
        numbers = ((0, 1), (1, 1), (-1, 1), (1, 2), (-7, 3), (HUGE, 1), (1, HUGE), (-HUGE, HUGE + 1))
        for thing in product(numbers, repeat=2):
            with self.subTest(thing=thing):
                self.assertIs(is_point(thing), True)

    def test_numbers_that_are_not_in_lowest_terms(self):
        for wrong in (
            (2, 2), (0, 2), (0, -1), (0, 0), (1, 0), (1, -1), (-1, -1), (4, 6), (3 * HUGE, 9), (3, -2),
            (1,), (1, 2, 3), (), 1, "11", [1, 1], (1, True), (True, 1), (1.0, 1), (1, "1"), ((1, 1), 1), None,
        ):
            for thing in ((wrong, (1, 1)), ((1, 1), wrong), (wrong, wrong)):
                with self.subTest(thing=thing):
                    self.assertIs(is_point(thing), False)

    def test_other_things(self):
        for thing in (
            None, True, 0, "", "ab", (), ((1, 1),), ((1, 1),) * 3, [(1, 1), (1, 1)], (1, 1), {}, object(), (1, (1, 1)),
        ):
            with self.subTest(thing=thing):
                self.assertIs(is_point(thing), False)


class Arguments(unittest.TestCase):
    """Points 2 and 3: nothing that is passed is changed, and asking again gives the same."""

    def test_nothing_is_changed(self):
        things = [[1, 2], {0: 1, 1: 2}, ["a"], {"a": [1]}, ([1], [2])]
        before = repr(things)
        for thing in things:
            is_name(thing)
            is_corner(thing)
        self.assertEqual(repr(things), before)

    def test_nothing_is_kept(self):
        thing = [1, 2]
        pair = (thing, 3)
        self.assertIs(is_corner(pair), False)
        thing.append(4)
        self.assertEqual(pair, ([1, 2, 4], 3))
        self.assertIs(is_corner((1, 3)), True)

    def test_the_same_again(self):
        asked = [(p, q, r) for p, q, r in product(SPOTS[:6], repeat=3)]
        before = [(turn(p, q, r), on_segment(p, q, r)) for p, q, r in asked]
        after = [(turn(p, q, r), on_segment(p, q, r)) for p, q, r in reversed(asked)]
        self.assertEqual(after[::-1], before)


if __name__ == "__main__":
    unittest.main()
