"""Pieces: points, segments and convex polygons with whole corners, their sums, and the points that they have."""

from roomyway.errors import TooLarge
from roomyway.planes import INSIDE, WITHIN, part_in, planes_of, segment
from roomyway.points import FARTHEST, is_corner_from

MOST_CORNERS = 24


def is_piece(thing):
    """Return True if a thing (anything) is a piece, otherwise False."""
    return is_piece_from(thing, MOST_CORNERS, -FARTHEST, FARTHEST)


def is_piece_from(thing, many, least, most):
    """Return True if a thing (anything) is a piece of at most so many corners, with coordinates from least to most."""
    if not isinstance(thing, tuple) or not 1 <= len(thing) <= many:
        return False
    if not all([is_corner_from(corner, least, most) for corner in thing]):
        return False
    # Only a piece is its own hull, in the very order in which a piece is written.
    return hull(list(thing)) == thing


def hull(corners):
    """Return the least piece that has all of the corners of a list; raise TooLarge if it has too many corners."""
    ordered = sorted(set(corners))
    if len(ordered) == 1:
        return (ordered[0],)
    # The last corner of each chain is the first one of the other.
    piece = tuple(_chain(ordered)[:-1] + _chain(ordered[::-1])[:-1])
    if len(piece) > MOST_CORNERS:
        raise TooLarge("the hull has too many corners")
    return piece


def _chain(ordered):
    """Return those of the corners that lead from the first to the last one with all others on the left."""
    kept = []
    for corner in ordered:
        while len(kept) > 1 and not _bends_left(kept[-2], kept[-1], corner):
            kept.pop()
        kept.append(corner)
    return kept


def _bends_left(a, b, c):
    """Return True if the corner c lies to the left of the line from the corner a to the corner b."""
    return (b[0] - a[0]) * (c[1] - a[1]) > (b[1] - a[1]) * (c[0] - a[0])


def sum_of(first, second):
    """Return the sum of two pieces; raise TooLarge if it has too many corners."""
    return hull([(ax + bx, ay + by) for ax, ay in first for bx, by in second])


def turned_over(piece):
    """Return the piece turned over."""
    return hull([(-x, -y) for x, y in piece])


def shifted(piece, corner):
    """Return the piece shifted by a corner."""
    along, up = corner
    return tuple([(x + along, y + up) for x, y in piece])


def is_in(p, piece):
    """Return True if the point p is one of the points of the piece, otherwise False."""
    return part_in(segment(p, p), planes_of(piece), WITHIN) is not None


def is_inside(p, piece):
    """Return True if the point p is one of the points of the piece and on no side of it, otherwise False."""
    return part_in(segment(p, p), planes_of(piece), INSIDE) is not None
