"""Sliding ways, which may touch but not enter, their lengths, and the heights that show which ones are shortest."""

from heapq import heappop, heappush
from itertools import combinations
from math import lcm

from roomyway.errors import NotFree, TooLarge
from roomyway.planes import INSIDE, is_clear
from roomyway.points import point
from roomyway.ratios import minus, plus, ratio
from roomyway.regions import Field
from roomyway.ways import stretches

MOST_REGIONS = 30


def is_loose(room, body, place):
    """Return True if the place of the body is loose, otherwise False."""
    return Field(room, body).has_loose(place)


def length(way):
    """Return the length of a way."""
    total = (0, 1)
    for a, b in stretches(way):
        for k in (0, 1):
            n, d = minus(a[k], b[k])
            total = plus(total, (abs(n), d))
    return total


def in_sight(room, body, start, goal):
    """Return the list of the corners in sight for two loose places."""
    return Sights(Field(room, body), start, goal).points


def slide(room, body, start, goal):
    """Return ("way", way, heights) with a shortest sliding way, or ("none", heights) if there is no sliding way."""
    field = Field(room, body)
    if not field.has_loose(start) or not field.has_loose(goal):
        raise NotFree("the start or the goal is not a loose place")
    if len(field.around) > MOST_REGIONS:
        raise TooLarge("there are too many regions")
    sights = Sights(field, start, goal)
    came = _driven(sights, sights.points.index(start))
    heights = {sights.points[k]: ratio(came[k][0], sights.scale) for k in came}
    if goal not in heights:
        return ("none", heights)
    return ("way", _way_back(sights, came, sights.points.index(goal)), heights)


def _driven(sights, first):
    """Return a dict from the points that can be reached to pairs of the height and the point before it.

    Points are given by their numbers, heights as integers by the scale of the sights.
    """
    came = {}
    # Whether two points see each other is asked last, and so only for what would lead to a point sooner.
    queue = [(0, first, first)]
    while len(queue) > 0:
        height, k, before = heappop(queue)
        if k not in came and sights.see(before, k):
            came[k] = (height, before)
            for j in range(len(sights.points)):
                if j not in came:
                    heappush(queue, (height + sights.drive(k, j), j, k))
    return came


def _way_back(sights, came, k):
    """Return the way by which the point number k was come to."""
    points = [sights.points[k]]
    while came[k][1] != k:
        k = came[k][1]
        points.append(sights.points[k])
    return tuple(points[::-1])


def takes_slide(room, body, start, goal, answer):
    """Return True if a tuple of one of both forms is a right answer for two loose places, otherwise False."""
    field = Field(room, body)
    if not field.has_loose(start) or not field.has_loose(goal):
        return False
    if not _are_heights(Sights(field, start, goal), start, answer[-1]):
        return False
    if answer[0] == "none":
        return len(answer) == 2 and goal not in answer[1]
    return answer[0] == "way" and len(answer) == 3 and _is_shortest(field, start, goal, answer[1], answer[2])


def _is_shortest(field, start, goal, way, heights):
    """Return True if a way leads from a loose start to the goal, is sliding, and is as long as the goal is high."""
    if len(way) == 0 or way[0] != start or way[-1] != goal or goal not in heights:
        return False
    return length(way) == heights[goal] and all([field.leads_loose(a, b) for a, b in stretches(way)])


def _are_heights(sights, start, heights):
    """Return True if a dict has heights for exactly the points that can be reached, otherwise False."""
    reached = _reached(sights, sights.points.index(start))
    if len(heights) != len(reached) or not all([sights.points[k] in heights for k in reached]):
        return False
    if heights[start] != (0, 1):
        return False
    return all([_differ_little(sights, heights, k, j) for k, j in combinations(reached, 2)])


def _reached(sights, first):
    """Return the list of the numbers of all points that can be reached."""
    found = [first]
    left = [k for k in range(len(sights.points)) if k != first]
    at = 0
    while at < len(found):
        seen = {k: True for k in left if sights.see(found[at], k)}
        left = [k for k in left if k not in seen]
        found.extend(list(seen))
        at += 1
    return found


def _differ_little(sights, heights, k, j):
    """Return True if the heights of two points differ by at most their drive, or they don't see each other."""
    n, d = minus(heights[sights.points[k]], heights[sights.points[j]])
    return abs(n) * sights.scale <= sights.drive(k, j) * d or not sights.see(k, j)


class Sights:
    """The corners in sight for two loose places, with coordinates multiplied by a scale that makes them integers."""

    def __init__(self, field, start, goal):
        self.fences = field.fences
        self.scale = lcm(start[0][1], start[1][1], goal[0][1], goal[1][1])
        found = {point(corner): True for region in field.around for corner in region}
        found = {p: True for p in found if field.has_loose(p)}
        found[start] = True
        found[goal] = True
        self.points = sorted(list(found), key=self.spot)
        self.spots = [self.spot(p) for p in self.points]

    def spot(self, p):
        """Return the pair of the multiplied coordinates of a point."""
        (xn, xd), (yn, yd) = p
        return (xn * (self.scale // xd), yn * (self.scale // yd))

    def see(self, k, j):
        """Return True if the stretch between the points number k and j enters no region, otherwise False."""
        return is_clear(self.spots[k] + self.spots[j] + (self.scale,), self.fences, INSIDE)

    def drive(self, k, j):
        """Return the multiplied length of the stretch between the points number k and j."""
        (ax, ay), (bx, by) = self.spots[k], self.spots[j]
        return abs(ax - bx) + abs(ay - by)
