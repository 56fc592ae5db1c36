"""How far stretches are from pieces, what shows it, and how much nearer all may come to a way.

The distance of two points is the greater one of the absolute differences of both coordinates. So of all directions u
that are as long as (1, 0), the sum of the absolute coordinates being the length, one tells the distance of two points
by u, and none tells more. Therefore the distance of a stretch and a piece is the most that any direction tells of how
far both are from each other along it.
"""

from roomyway.meeting import directions
from roomyway.planes import point_at, segment
from roomyway.points import on_segment, point
from roomyway.ratios import is_less, minus, over, plus, sign, times
from roomyway.regions import regions
from roomyway.shapes import is_in
from roomyway.ways import stretches

ZERO = (0, 1)


def distance(a, b, piece):
    """Return the distance of the stretch from the point a to the point b and a piece."""
    return _farthest(a, b, piece)[0]


def _farthest(a, b, piece):
    """Return the pair of the distance of a stretch and a piece, and a direction that tells it.

    The direction is (0, 0) if the distance is zero.
    """
    found = (ZERO, (0, 0))
    for u in directions(segment(a, b), piece):
        far = over(_gap(u, a, b, piece), _long(u))
        if is_less(found[0], far):
            found = (far, u)
    return found


def _gap(u, a, b, piece):
    """Return the least u . r for points r of a stretch less the greatest one for points of a piece."""
    return minus(_least([_along(u, a), _along(u, b)]), (_greatest(u, piece), 1))


def _along(u, p):
    """Return u . p for a point."""
    return plus(times((u[0], 1), p[0]), times((u[1], 1), p[1]))


def _greatest(u, piece):
    """Return the greatest u . r for points r of a piece, an integer."""
    return max([u[0] * x + u[1] * y for x, y in piece])


def _long(u):
    """Return the sum of the absolute coordinates of a corner, as a number."""
    return (abs(u[0]) + abs(u[1]), 1)


def _least(numbers):
    """Return the least number of a list that is not empty."""
    least = numbers[0]
    for number in numbers:
        if is_less(number, least):
            least = number
    return least


def distance_paper(a, b, piece):
    """Return a paper (u, p, q) for the distance of a stretch and a piece, or None if it is zero."""
    far, u = _farthest(a, b, piece)
    if far == ZERO:
        return None
    # The direction tells the distance, so points that are nearest to each other are the foremost ones along it.
    least = _least([_along(u, a), _along(u, b)])
    greatest = _greatest(u, piece)
    ends = [p for p in (a, b) if _along(u, p) == least]
    corners = [point((x, y)) for x, y in piece if u[0] * x + u[1] * y == greatest]
    return [(u, p, q) for p, q in _pairs(ends, corners) if _between(p, q) == far][0]


def _pairs(ends, corners):
    """Return a list of pairs of points of two segments, given by their ends: some of them are nearest to each other.

    Two segments that do not meet are nearest to each other at an end of the one or of the other.
    """
    found = [(p, _nearest(p, corners[0], corners[-1])) for p in ends]
    found.extend([(_nearest(q, ends[0], ends[-1]), q) for q in corners])
    return found


def _nearest(p, a, b):
    """Return the point of the segment from a to b that is nearest to the point p, which is not on it."""
    # Along the segment the distance bends only where both coordinates differ by as much.
    places = [a, b]
    for slope in (1, -1):
        first = _slant(p, a, slope)
        last = _slant(p, b, slope)
        if sign(first) * sign(last) < 0:
            places.append(point_at(segment(a, b), over(first, minus(first, last))))
    least = _least([_between(p, place) for place in places])
    return [place for place in places if _between(p, place) == least][0]


def _slant(p, q, slope):
    """Return a number that is zero if q lies on the line through p with a slope, and tells its side otherwise."""
    return minus(minus(q[0], p[0]), times((slope, 1), minus(q[1], p[1])))


def _between(p, q):
    """Return the distance of two points."""
    across, up = [(abs(n), d) for n, d in (minus(p[0], q[0]), minus(p[1], q[1]))]
    return up if is_less(across, up) else across


def takes_distance(paper, a, b, piece, d):
    """Return True if a triple is a paper for the distance d of a stretch and a piece, otherwise False."""
    u, p, q = paper
    if u == (0, 0) or sign(d) < 1 or not on_segment(p, a, b) or not is_in(q, piece):
        return False
    return _between(p, q) == d and _gap(u, a, b, piece) == times(d, _long(u))


def margin(room, body, way):
    """Return the margin of a free way: the least distance of a stretch of it and a region of the body."""
    around = regions(room, body)
    return _least([distance(a, b, region) for a, b in stretches(way) for region in around])
