"""Ways that touch nothing, the lines that show it, and the judges of both."""

from itertools import pairwise

from roomyway.cells import chain_between
from roomyway.errors import NotFree, TooLarge
from roomyway.meeting import is_line_between, line_between
from roomyway.regions import Field

MOST_REGIONS = 60


def find_way(room, body, start, goal):
    """Return a free way from the start to the goal, or None if there is none."""
    field = free_field(room, body, [start, goal])
    if start == goal:
        return (start,)
    if field.leads_free(start, goal):
        return (start, goal)
    points = chain_between(field, start, goal)
    if points is None:
        return None
    return _shortened(points, field)


def free_field(room, body, places):
    """Return the field of a body; raise an error if one of the places is not free or the regions are too many."""
    field = Field(room, body)
    if not all([field.has_free(place) for place in places]):
        raise NotFree("one of the places is not free")
    if len(field.around) > MOST_REGIONS:
        raise TooLarge("there are too many regions")
    return field


def _shortened(points, field):
    """Return a way of some of the points, among them the ends, whose stretches are free as those of the points are."""
    kept = [points[0]]
    last = len(points) - 1
    at = 0
    while at < last:
        far = last
        while far > at + 1 and not field.leads_free(points[at], points[far]):
            far = (at + far) // 2
        kept.append(points[far])
        at = far
    return tuple(kept)


def stretches(way):
    """Return the list of the pairs of ends of the stretches of a way."""
    if len(way) == 1:
        return [(way[0], way[0])]
    return list(pairwise(way))


def takes_way(room, body, start, goal, way):
    """Return True if a tuple of points is a free way from the start to the goal, otherwise False."""
    field = Field(room, body)
    if len(way) == 0 or way[0] != start or way[-1] != goal or not field.has_free(start):
        return False
    return all([field.leads_free(a, b) for a, b in stretches(way)])


def lines_of(room, body, way):
    """Return lines for a free way: for each stretch the list of the lines between it and the regions."""
    around = Field(room, body).around
    return [[line_between(a, b, region) for region in around] for a, b in stretches(way)]


def takes_lines(room, body, way, lines):
    """Return True if the way begins at a free place and the lists of pairs are lines for it, otherwise False."""
    field = Field(room, body)
    if len(way) == 0 or not field.has_free(way[0]) or len(lines) != len(stretches(way)):
        return False
    return all([_are_lines(row, a, b, field.around) for row, (a, b) in zip(lines, stretches(way))])


def _are_lines(row, a, b, around):
    """Return True if the pairs of a list are lines between a stretch and the regions, otherwise False."""
    if len(row) != len(around):
        return False
    return all([is_line_between(line, a, b, region) for line, region in zip(row, around)])
