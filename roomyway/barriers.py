"""Barriers: closed rings within the regions that go round one of two places and not round the other."""

from roomyway.planes import WITHIN, part_in, point_at, sides_of
from roomyway.points import point, turn
from roomyway.ratios import is_less
from roomyway.regions import Field
from roomyway.shapes import is_in
from roomyway.ways import free_field


def find_barrier(room, body, start, goal):
    """Return a barrier between the start and the goal, or None if there is none."""
    field = free_field(room, body, [start, goal])
    return Net(field, start, goal).ring()


def goes_round(ring, p):
    """Return True if a ring goes round the point p, otherwise False."""
    counted = [_counts(a, b, p) for _, a, b in _stretches(ring)]
    return counted.count(True) % 2 == 1


def _stretches(ring):
    """Return the list of the stretches of a ring: triples of the region and both ends."""
    return [(here[0], here[1], after[1]) for here, after in zip(ring, ring[1:] + ring[:1])]


def _counts(a, b, p):
    """Return True if the stretch from a to b is counted for the point p, otherwise False."""
    if is_less(p[1], a[1]) == is_less(p[1], b[1]):
        return False
    # The stretch is to the right of p if p is to the left of it, seen from its lower end.
    if is_less(p[1], a[1]):
        return turn(b, a, p) == 1
    return turn(a, b, p) == 1


def takes_barrier(room, body, start, goal, ring):
    """Return True if a tuple of pairs is a barrier between both places, and both are free, otherwise False."""
    field = Field(room, body)
    if not field.has_free(start) or not field.has_free(goal):
        return False
    if not all([_is_stretch(stretch, field.around) for stretch in _stretches(ring)]):
        return False
    return goes_round(ring, start) != goes_round(ring, goal)


def _is_stretch(stretch, around):
    """Return True if the region of a stretch is one of those around, and has both of its ends, otherwise False."""
    region, a, b = stretch
    return region in around and is_in(a, region) and is_in(b, region)


class Net:
    """The regions and where they meet, with the sides on which paths through them pass two places outside of them.

    A path is odd if it counts an odd number of stretches for both places together. In a region all paths between two
    points are odd or all are even, since a region has no hole, and so has none of what two regions have in common.
    Therefore a barrier is there if and only if some ring through regions that meet is odd.
    """

    def __init__(self, field, start, goal):
        self.around = field.around
        self.fences = field.fences
        self.start = start
        self.goal = goal
        # For each region that was come to: the region it was come to from, where both meet, and whether the path
        # to this point is odd.
        self.came = {}
        self.asked = {}

    def ring(self):
        """Return an odd ring, or None if there is none."""
        for k, region in enumerate(self.around):
            if k not in self.came:
                self.came[k] = (None, point(region[0]), False)
                found = self._ring_from(k)
                if found is not None:
                    return found
        return None

    def _ring_from(self, root):
        """Come to all regions that hang together with a region; return the first odd ring, or None."""
        queue = [root]
        at = 0
        while at < len(queue):
            here = queue[at]
            for other, meeting in self._neighbours(here):
                is_odd = self._is_odd(here, meeting)
                if other not in self.came:
                    self.came[other] = (here, meeting, is_odd)
                    queue.append(other)
                elif is_odd != self._is_odd(other, meeting):
                    return self._closed(here, other, meeting)
            at += 1
        return None

    def _neighbours(self, k):
        """Return the list of pairs of another region that meets the region number k, and a point of both.

        Regions that were asked for their neighbours before are left out.
        """
        self.asked[k] = True
        found = []
        for other in range(len(self.around)):
            if other not in self.asked:
                meeting = self._meeting(k, other)
                if meeting is not None:
                    found.append((other, meeting))
        return found

    def _meeting(self, k, other):
        """Return a point of a side of one region that the other one has, too, or None if there is none.

        This leaves out another region within the inside of the one. It is not needed: a ring through it, and through
        what meets it, can as well go through the one.
        """
        for ends in sides_of(self.around[k]):
            part = part_in(ends, self.fences[other], WITHIN)
            if part is not None:
                return point_at(ends, part[0])
        return None

    def _is_odd(self, k, p):
        """Return True if the path to the region number k and on to its point p is odd, otherwise False."""
        _, entry, is_odd = self.came[k]
        for place in (self.start, self.goal):
            is_odd = is_odd != _counts(entry, p, place)
        return is_odd

    def _closed(self, k, other, meeting):
        """Return the ring of the paths to two regions and the point at which both meet."""
        there = self._path_to(k)
        back = self._path_to(other)
        while len(there) > 1 and len(back) > 1 and there[1] == back[1]:
            there = there[1:]
            back = back[1:]
        ring = [(self.around[j], self.came[j][1]) for j in there[1:]]
        # On the way back a region is come to where it was left on the way to it.
        ring.append((self.around[other], meeting))
        for j, after in zip(back[-2::-1], back[:0:-1]):
            ring.append((self.around[j], self.came[after][1]))
        return tuple(ring)

    def _path_to(self, k):
        """Return the list of the regions on the path to the region number k, from the first one on."""
        path = [k]
        while self.came[path[-1]][0] is not None:
            path.append(self.came[path[-1]][0])
        return path[::-1]
