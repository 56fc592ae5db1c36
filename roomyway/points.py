"""Corners, points and their turns, and names."""

from math import gcd

from roomyway.ratios import is_less, sign

FARTHEST = 10000
LONGEST_NAME = 12


def point(corner):
    """Return the point of a corner."""
    x, y = corner
    return ((x, 1), (y, 1))


def turn(p, q, r):
    """Return 1 if r lies to the left of the line from p to q, -1 if to the right, otherwise 0."""
    along = _step(p[0], q[0])
    up = _step(p[1], q[1])
    far_along = _step(p[0], r[0])
    far_up = _step(p[1], r[1])
    # Both products are brought to one divisor, which is above zero and so leaves the sign as it is.
    left = along[0] * far_up[0] * up[1] * far_along[1]
    right = up[0] * far_along[0] * along[1] * far_up[1]
    return sign((left - right, 1))


def _step(a, b):
    """Return the pair (n, d) with n / d = b - a and d above zero."""
    # Lowest terms are not needed for a sign, and turns are asked for so often that finding them would be slow.
    return (b[0] * a[1] - a[0] * b[1], a[1] * b[1])


def on_segment(p, a, b):
    """Return True if the point p lies on the closed segment from a to b, otherwise False."""
    return turn(a, b, p) == 0 and _is_between(p[0], a[0], b[0]) and _is_between(p[1], a[1], b[1])


def _is_between(n, a, b):
    """Return True if the number n is one of a and b or lies between them, in whichever order they are."""
    if is_less(n, a):
        return not is_less(n, b)
    return not is_less(a, n) or not is_less(b, n)


def is_name(thing):
    """Return True if a thing (anything) is a text of 1 to 12 small letters, otherwise False."""
    if not isinstance(thing, str) or not 1 <= len(thing) <= LONGEST_NAME:
        return False
    # Compared one by one, since Python also counts letters beyond a to z as small ones.
    return all(["a" <= letter <= "z" for letter in thing])


def is_corner(thing):
    """Return True if a thing (anything) is a pair of integers from -10000 to 10000, otherwise False."""
    return is_corner_from(thing, -FARTHEST, FARTHEST)


def is_corner_from(thing, least, most):
    """Return True if a thing (anything) is a pair of integers from the least to the most, otherwise False."""
    if not isinstance(thing, tuple) or len(thing) != 2:
        return False
    return is_whole(thing[0], least, most) and is_whole(thing[1], least, most)


def is_whole(thing, least, most):
    """Return True if a thing (anything) is an integer from the least to the most, otherwise False."""
    # To Python True and False are integers, but to the document they are not.
    if not isinstance(thing, int) or isinstance(thing, bool):
        return False
    return least <= thing <= most


def is_point(thing):
    """Return True if a thing (anything) is a pair of numbers in lowest terms, otherwise False."""
    if not isinstance(thing, tuple) or len(thing) != 2:
        return False
    return is_number(thing[0]) and is_number(thing[1])


def is_number(thing):
    """Return True if a thing (anything) is a pair (n, d) in lowest terms with d at least 1, otherwise False."""
    if not isinstance(thing, tuple) or len(thing) != 2:
        return False
    n, d = thing
    for part in (n, d):
        if not isinstance(part, int) or isinstance(part, bool):
            return False
    return d >= 1 and gcd(n, d) == 1
