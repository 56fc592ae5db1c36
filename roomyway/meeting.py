"""Whether a segment and a piece meet, and what shows it: a point of both, or a line between them."""

from roomyway.planes import INSIDE, WITHIN, lowest, part_in, planes_of, point_at, segment
from roomyway.ratios import is_less, middle, ratio


def are_apart(a, b, piece):
    """Return True if the segment from the point a to the point b has no point of the piece, otherwise False."""
    return part_in(segment(a, b), planes_of(piece), WITHIN) is None


def common_point(a, b, piece):
    """Return a point of both the segment and the piece, or None if they are apart."""
    ends = segment(a, b)
    part = part_in(ends, planes_of(piece), WITHIN)
    if part is None:
        return None
    return point_at(ends, part[0])


def enters(a, b, piece):
    """Return True if some point of the segment is inside of the piece, otherwise False."""
    return part_in(segment(a, b), planes_of(piece), INSIDE) is not None


def line_between(a, b, piece):
    """Return a line (u, c) between the segment and the piece, or None if they are not apart."""
    ends = segment(a, b)
    ax, ay, bx, by, w = ends
    for u, v in directions(ends, piece):
        least = min(u * ax + v * ay, u * bx + v * by)
        greatest = max([u * x + v * y for x, y in piece])
        if greatest * w < least:
            return ((u, v), middle((greatest, 1), ratio(least, w)))
    return None


def directions(ends, piece):
    """Return the list of the directions of which one leads from the piece to the segment, if they are apart.

    They are those at right angles to the sides of both. Where all lies on one line, these do not tell the two apart,
    but the directions of the axes do, and they are among the planes of the piece.
    """
    found = [(-u, -v) for u, v, _ in planes_of(piece)]
    ax, ay, bx, by, _ = ends
    if (ax, ay) != (bx, by):
        u, v = lowest(ay - by, bx - ax)
        found.extend([(u, v), (-u, -v)])
    return found


def is_line_between(line, a, b, piece):
    """Return True if the pair (u, c) is a line between the segment and the piece, otherwise False."""
    (u, v), c = line
    if (u, v) == (0, 0):
        return False
    for (xn, xd), (yn, yd) in (a, b):
        if not is_less(c, (u * xn * yd + v * yn * xd, xd * yd)):
            return False
    return all([is_less((u * x + v * y, 1), c) for x, y in piece])
