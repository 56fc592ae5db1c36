"""Half planes: a piece is the common part of some of them, and so they tell how much of a segment lies in it.

A plane is a triple (u, v, c) of integers: the half plane of all points (x, y) with u x + v y >= c. A fence is the list
of planes of a piece. Segments are brought to one divisor: five integers (ax, ay, bx, by, w) stand for the segment from
(ax / w, ay / w) to (bx / w, by / w), so that integers alone decide.
"""

from math import gcd, lcm

from roomyway.ratios import ratio

# How deep in a piece a point must lie to count: anywhere, its rim included, or inside only.
WITHIN = 0
INSIDE = 1


def planes_of(piece):
    """Return the fence of a piece: the four planes of the upright rectangle around it, then those of its sides."""
    xs = [x for x, _ in piece]
    ys = [y for _, y in piece]
    # The rectangle decides most questions at once, and it bounds what has no sides or only one.
    found = {(1, 0, min(xs)): True, (-1, 0, -max(xs)): True, (0, 1, min(ys)): True, (0, -1, -max(ys)): True}
    if len(piece) > 1:
        for ax, ay, bx, by, _ in sides_of(piece):
            u, v = lowest(ay - by, bx - ax)
            found[(u, v, u * ax + v * ay)] = True
    return list(found)


def sides_of(piece):
    """Return the list of the sides of a piece, as segments: one for each corner, to the next one."""
    return [a + b + (1,) for a, b in zip(piece, piece[1:] + piece[:1])]


def lowest(u, v):
    """Return the shortest pair of integers with the direction of (u, v), which is not (0, 0)."""
    common = gcd(u, v)
    return (u // common, v // common)


def segment(a, b):
    """Return the segment from the point a to the point b, brought to one divisor."""
    (ax, aw), (ay, ah) = a
    (bx, bw), (by, bh) = b
    w = lcm(aw, ah, bw, bh)
    return (ax * (w // aw), ay * (w // ah), bx * (w // bw), by * (w // bh), w)


def part_in(ends, fence, depth):
    """Return the part of a segment that is within (or inside of) a fence, or None if nothing of it is.

    The part is a pair of two shares (n, d) of the segment, with d above zero, but not always in lowest terms. If the
    part that is inside does not have an end of its own, the share is the one that it comes up to.
    """
    ax, ay, bx, by, w = ends
    low, under = 0, 1
    high, over = 1, 1
    for u, v, c in fence:
        first = u * ax + v * ay - c * w
        last = u * bx + v * by - c * w
        # Both are integers, so being above zero is being at least 1, which is the depth of what is inside.
        if first < depth:
            if last < depth:
                return None
            if -first * under > low * (last - first):
                low, under = -first, last - first
        elif last < depth and first * over < high * (first - last):
            high, over = first, first - last
    if low * over + depth > high * under:
        return None
    return ((low, under), (high, over))


def point_at(ends, share):
    """Return the point of a segment at a share (n, d) of it."""
    ax, ay, bx, by, w = ends
    n, d = share
    return (ratio(ax * (d - n) + bx * n, w * d), ratio(ay * (d - n) + by * n, w * d))


def is_clear(ends, fences, depth):
    """Return True if nothing of a segment is within (or inside of) any of the fences, otherwise False."""
    for fence in fences:
        if part_in(ends, fence, depth) is not None:
            return False
    return True
