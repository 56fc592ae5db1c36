"""Free places cut by upright lines, and chains of free stretches through the cells between the cuts.

The lines go through all points at which the rims of the regions turn, meet or part, as far as free places come up to
these points, and in the middle between each two of such lines next to each other. On a line, what the regions leave is
gaps. Between two lines of the first kind nothing begins or ends, so each gap of the line in the middle stands for a
cell that is a trapezoid: its floor is the rim of one region and its ceiling that of another one.
"""

from roomyway.planes import INSIDE, WITHIN, is_clear, part_in, point_at, segment, sides_of
from roomyway.points import point
from roomyway.ratios import is_less, middle, minus, over, plus, ratio, times


def chain_between(field, start, goal):
    """Return a list of points from one free place to another, with free stretches between them, or None."""
    cells = Cells(field, _cuts(field, start, goal))
    first = cells.gap_of(start)
    last = cells.gap_of(goal)
    came = _search(cells, first, last)
    if last not in came:
        return None
    # All of a gap can be reached from the middles of the gaps next to it, so those of the ends are left out.
    points = []
    gap = came[last]
    while gap is not None and gap != first:
        points.append(cells.middle_of(gap))
        gap = came[gap]
    return [start] + points[::-1] + [goal]


def _search(cells, first, last):
    """Return a dict from the gaps that were come to, up to the last one, to the gaps they were come to from."""
    came = {first: None}
    queue = [first]
    at = 0
    while at < len(queue) and last not in came:
        here = queue[at]
        for gap in cells.beside(here):
            if gap not in came:
                came[gap] = here
                queue.append(gap)
        at += 1
    return came


def _cuts(field, start, goal):
    """Return the ascending list of the first coordinates of the cuts, those of the bounds included."""
    found = {start[0]: True, goal[0]: True}
    left = (field.left, 1)
    right = (field.right, 1)
    for p in _marks(field):
        if p[0] not in found and is_less(left, p[0]) and is_less(p[0], right):
            if is_clear(segment(p, p), field.fences, INSIDE):
                found[p[0]] = True
    return [left] + _ascending(list(found)) + [right]


def _ascending(numbers):
    """Return the numbers of a list in ascending order."""
    most = max([d for _, d in numbers])
    # Two of them differ by at least 1 / most ** 2, so they still differ when they are rounded to that.
    return sorted(numbers, key=lambda number: number[0] * most * most // number[1])


def _marks(field):
    """Return a dict whose keys are the corners of the regions and the points at which sides come to other regions."""
    found = {}
    for k, region in enumerate(field.around):
        others = field.fences[:k] + field.fences[k + 1:]
        for ends in sides_of(region):
            found[point(ends[:2])] = True
            for fence in others:
                part = part_in(ends, fence, WITHIN)
                if part is not None:
                    found[point_at(ends, part[0])] = True
                    found[point_at(ends, part[1])] = True
    return found


class Cells:
    """The gaps of all lines, worked out when they are asked for.

    Lines are counted from the left bound on: the even ones are the cuts, the odd ones lie in the middle between two
    cuts. A gap is named by a pair: the number of its line and its number on it. Heights on lines are given as shares
    of the way from the bottom to the top.
    """

    def __init__(self, field, cuts):
        self.field = field
        self.cuts = cuts
        self.known = {}

    def line(self, k):
        """Return the line number k: its first coordinate, the part of each region on it, or None, and the gaps."""
        if k not in self.known:
            x = self._coordinate(k)
            n, d = x
            ends = (n, self.field.bottom * d, n, self.field.top * d, d)
            parts = [part_in(ends, fence, WITHIN) for fence in self.field.fences]
            self.known[k] = (x, parts, gaps_between(parts))
        return self.known[k]

    def _coordinate(self, k):
        """Return the first coordinate of the line number k."""
        if k % 2 == 1:
            return middle(self.cuts[k // 2], self.cuts[k // 2 + 1])
        return self.cuts[k // 2]

    def gap_of(self, place):
        """Return the gap that has a free place through which there is a cut."""
        k = 2 * self.cuts.index(place[0])
        bottom = (self.field.bottom, 1)
        share = over(minus(place[1], bottom), minus((self.field.top, 1), bottom))
        gaps = self.line(k)[2]
        return [(k, j) for j, gap in enumerate(gaps) if is_less(gap[0], share) and is_less(share, gap[1])][0]

    def middle_of(self, gap):
        """Return the point in the middle of a gap."""
        k, j = gap
        x, _, gaps = self.line(k)
        low, high, _, _ = gaps[j]
        long = ratio(self.field.top - self.field.bottom, 1)
        return (x, plus((self.field.bottom, 1), times(middle(low, high), long)))

    def beside(self, gap):
        """Return the list of the gaps on the lines beside it between which and the gap there is nothing."""
        k, j = gap
        mine = self.line(k)[2][j]
        found = []
        for side in (k - 1, k + 1):
            _, parts, gaps = self.line(side)
            for i, other in enumerate(gaps):
                if k % 2 == 1:
                    is_open = _comes_up_to(mine, other, parts)
                else:
                    is_open = _comes_up_to(other, mine, self.line(k)[1])
                if is_open:
                    found.append((side, i))
        return found


def gaps_between(parts):
    """Return the list of the gaps that parts of a line leave, from the bottom up.

    A gap is a tuple of its two ends and the numbers of the parts that it lies between, or None at the bottom and top.
    """
    gaps = [((0, 1), (1, 1), None, None)]
    for k, part in enumerate(parts):
        if part is not None:
            gaps = [left for gap in gaps for left in _without(gap, part, k)]
    return gaps


def _without(gap, part, k):
    """Return the list of the gaps that the part number k leaves of a gap."""
    low, high, below, above = gap
    if not is_less(low, part[1]) or not is_less(part[0], high):
        return [gap]
    left = []
    if is_less(low, part[0]):
        left.append((low, part[0], below, k))
    if is_less(part[1], high):
        left.append((part[1], high, k, above))
    return left


def _comes_up_to(cell, gap, parts):
    """Return True if a cell comes up to a gap of a cut beside it, on which the regions have these parts."""
    _, _, below, above = cell
    if below is not None and is_less(gap[0], parts[below][1]):
        return False
    return above is None or not is_less(parts[above][0], gap[1])
