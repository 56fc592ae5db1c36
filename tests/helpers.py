"""What the tests share: rooms and bodies, and slow judges that follow the document's words by Python's fractions."""

from fractions import Fraction
from itertools import combinations, product

from roomyway.rooms import Room

FAR = 4000
POINT = ((0, 0),)
SQUARE = ((0, 0), (1, 0), (1, 1), (0, 1))


def exact(p):
    """The pair of fractions of a point."""
    return Fraction(*p[0]), Fraction(*p[1])


def number(value):
    """The number of a fraction or an integer."""
    value = Fraction(value)
    return (value.numerator, value.denominator)


def spot(x, y):
    """The point with two coordinates, which are integers, fractions or texts."""
    return (number(x), number(y))


def box(left, bottom, right, top):
    """The piece that is an upright rectangle."""
    return ((left, bottom), (right, bottom), (right, top), (left, top))


def cross(p, q, r):
    return (q[0] - p[0]) * (r[1] - p[1]) - (q[1] - p[1]) * (r[0] - p[0])


def sides(piece):
    return list(zip(piece, piece[1:] + piece[:1]))


def is_proper(piece):
    """Whether a tuple of corners is a piece, by the words of point 6."""
    if not 1 <= len(piece) <= 24 or len(set(piece)) < len(piece) or min(piece) != piece[0]:
        return False
    if len(piece) < 3:
        return True
    return all(cross(a, b, c) > 0 for a, b in sides(piece) for c in piece if c not in (a, b))


def has(piece, p):
    """Whether a pair of fractions (or integers) is a point of the piece."""
    if len(piece) == 1:
        return tuple(p) == piece[0]
    if len(piece) == 2:
        return cross(*piece, p) == 0 and all(min(ks) <= k <= max(ks) for k, ks in zip(p, zip(*piece)))
    return all(cross(a, b, p) >= 0 for a, b in sides(piece))


def has_inside(piece, p):
    return len(piece) > 2 and all(cross(a, b, p) > 0 for a, b in sides(piece))


def wrapped(corners):
    """The hull of some corners, by going round them from each one to the rightmost other one."""
    corners = sorted(set(corners))
    piece = [corners[0]]
    while True:
        here = piece[-1]
        best = None
        for corner in corners:
            if corner == here:
                continue
            bend = -1 if best is None else cross(here, best, corner)
            if bend < 0 or bend == 0 and stride(here, corner) > stride(here, best):
                best = corner
        if best is None or best == piece[0]:
            return tuple(piece)
        piece.append(best)


def stride(a, b):
    return abs(a[0] - b[0]) + abs(a[1] - b[1])


def shares(a, b, piece):
    """Shares of a segment between which nothing changes: whatever it has of the piece begins and ends at them."""
    found = {Fraction(0), Fraction(1)}
    for c, d in sides(piece):
        found |= {root(cross(c, d, a), cross(c, d, b))}
        found |= {root(a[k] - c[k], b[k] - c[k]) for k in (0, 1)}
    return sorted(share for share in found if share is not None and 0 <= share <= 1)


def root(first, last):
    return None if first == last else Fraction(first) / (first - last)


def at(a, b, share):
    return tuple(a[k] + (b[k] - a[k]) * share for k in (0, 1))


def meets(a, b, piece):
    """Whether the segment between two points and the piece have a point in common."""
    a, b = exact(a), exact(b)
    # Said first only because it is quick: what is outside of one side is apart.
    if any(cross(c, d, a) < 0 and cross(c, d, b) < 0 for c, d in sides(piece)):
        return False
    return any(has(piece, at(a, b, share)) for share in shares(a, b, piece))


def goes_inside(a, b, piece):
    """Whether some point of the segment is inside of the piece."""
    a, b = exact(a), exact(b)
    # Said first only because it is quick: what is not inside of one side is not inside.
    if any(cross(c, d, a) <= 0 and cross(c, d, b) <= 0 for c, d in sides(piece)):
        return False
    found = shares(a, b, piece)
    between = [(low + high) / 2 for low, high in zip(found, found[1:])]
    return any(has_inside(piece, at(a, b, share)) for share in found + between)


def is_line(line, a, b, piece):
    """Whether a line lies between the segment and the piece, by the words of point 9."""
    u, c = line
    c = Fraction(*c)
    if u == (0, 0):
        return False
    above = all(u[0] * p[0] + u[1] * p[1] > c for p in (exact(a), exact(b)))
    return above and all(u[0] * x + u[1] * y < c for x, y in piece)


def obstacles(room):
    """The obstacles of a room in the documented order, from what the room tells."""
    width, height = room.size()
    far = [
        box(-FAR, -FAR, 0, height + FAR),
        box(width, -FAR, width + FAR, height + FAR),
        box(-FAR, -FAR, width + FAR, 0),
        box(-FAR, height, width + FAR, height + FAR),
    ]
    walls = [piece for _, shape in sorted(room.walls().items()) for piece in shape]
    doors = [piece for _, (shape, shut) in sorted(room.doors().items()) if shut for piece in shape]
    return far + walls + doors


def regions_of(room, body):
    """The regions of a body in the documented order, by their corners."""
    found = []
    for part in room.bodies()[body]:
        for piece in obstacles(room):
            found.append(wrapped([(x - dx, y - dy) for x, y in piece for dx, dy in part]))
    return found


def is_free_place(room, body, place):
    """Whether a place is free, by the words of point 11."""
    width, height = room.size()
    x, y = exact(place)
    for part in room.bodies()[body]:
        moved = [(x + dx, y + dy) for dx, dy in part]
        if not all(0 < mx < width and 0 < my < height for mx, my in moved):
            return False
        if any(overlap(tuple(moved), piece) for piece in obstacles(room)[4:]):
            return False
    return True


def overlap(first, second):
    """Whether two pieces have a point in common: if so, a side of the one meets the other, or one has the other."""
    if has(second, first[0]) or has(first, second[0]):
        return True
    for a, b in sides(first):
        if any(has(second, at(a, b, share)) for share in shares(a, b, second)):
            return True
    return False


def is_loose_place(room, body, place):
    """Whether a place is loose, by the words of point 17."""
    width, height = room.size()
    x, y = exact(place)
    for dx, dy in [corner for part in room.bodies()[body] for corner in part]:
        if not (0 <= x + dx <= width and 0 <= y + dy <= height):
            return False
    return not any(has_inside(region, (x, y)) for region in regions_of(room, body))


def stretches_of(way):
    return [(way[0], way[0])] if len(way) == 1 else list(zip(way, way[1:]))


def is_free_way(room, body, start, goal, way):
    """Whether a tuple of points is a free way, by the words of point 13."""
    if not way or way[0] != start or way[-1] != goal or not is_free_place(room, body, start):
        return False
    around = regions_of(room, body)
    return not any(meets(a, b, region) for a, b in stretches_of(way) for region in around)


def rounds(ring, p):
    """Whether a ring goes round a point, by the words of point 15."""
    x, y = exact(p)
    many = 0
    for (_, here), (_, there) in zip(ring, ring[1:] + ring[:1]):
        (ax, ay), (bx, by) = exact(here), exact(there)
        if (ay <= y) != (by <= y) and ax + (bx - ax) * (y - ay) / (by - ay) > x:
            many += 1
    return many % 2 == 1


def is_barrier(room, body, start, goal, ring):
    """Whether a ring is a barrier, by the words of points 15 and 16."""
    if not (is_free_place(room, body, start) and is_free_place(room, body, goal)):
        return False
    around = regions_of(room, body)
    for (region, here), (_, there) in zip(ring, ring[1:] + ring[:1]):
        if region not in around or not has(region, exact(here)) or not has(region, exact(there)):
            return False
    return rounds(ring, start) != rounds(ring, goal)


def drive(way):
    """The length of a way, as a fraction."""
    return sum((stride(exact(a), exact(b)) for a, b in zip(way, way[1:])), Fraction(0))


def sights_of(room, body, start, goal):
    """The corners in sight, by the words of point 18."""
    corners = {spot(x, y) for region in regions_of(room, body) for x, y in region}
    loose = {p for p in corners if is_loose_place(room, body, p)}
    return sorted(loose | {start, goal}, key=exact)


def seen_from(room, body, start, goal):
    """A dict from the corners in sight to the lists of those to which a stretch leads that enters no region."""
    around = regions_of(room, body)
    points = sights_of(room, body, start, goal)
    found = {p: [] for p in points}
    for a, b in combinations(points, 2):
        if not any(goes_inside(a, b, region) for region in around):
            found[a].append(b)
            found[b].append(a)
    return found


def distances(seen, start):
    """The lengths of the shortest ways along what sees each other, from the start to all that can be reached."""
    best = {start: Fraction(0)}
    done = set()
    while set(best) - done:
        here = min(set(best) - done, key=lambda p: best[p])
        done.add(here)
        for there in seen[here]:
            far = best[here] + drive((here, there))
            best[there] = min(best.get(there, far), far)
    return best


def is_slide(seen, around, start, goal, answer):
    """Whether an answer for two loose places is right, by the words of points 17, 18 and 19."""
    heights = {p: Fraction(*height) for p, height in answer[-1].items()}
    best = distances(seen, start)
    if set(heights) != set(best) or heights[start] != 0:
        return False
    if any(abs(heights[a] - heights[b]) > drive((a, b)) for a in heights for b in seen[a]):
        return False
    if answer[0] == "none":
        return goal not in heights
    way = answer[1]
    if not way or way[0] != start or way[-1] != goal or goal not in heights or drive(way) != heights[goal]:
        return False
    return not any(goes_inside(a, b, region) for a, b in stretches_of(way) for region in around)


def a_room(width, height, walls=(), doors=(), body=(SQUARE,)):
    """A room with walls and shut doors that are called a, b, c and so on, and with a body called mover."""
    room = Room(width, height)
    names = iter("abcdefghijkl")
    for shape in walls:
        room.build(next(names), shape)
    for shape in doors:
        room.hang(next(names), shape)
    room.add_body("mover", body)
    return room


def halves(room, step=1):
    """All points of a grid over a room whose coordinates are multiples of half a step."""
    width, height = room.size()
    xs = range(0, 2 * width + 1, step)
    ys = range(0, 2 * height + 1, step)
    return [spot(Fraction(x, 2), Fraction(y, 2)) for x, y in product(xs, ys)]


def turned(room, change):
    """A room in which all shapes are changed by a function from corners to corners that keeps the frame's corner.

    The function gets a pair of coordinates, and 1 for what stands in the room or 0 for what is shifted by places.
    """
    width, height = room.size()
    (left, bottom), (right, top) = change((0, 0), 1), change((width, height), 1)
    other = Room(max(left, right), max(bottom, top))
    for name, shape in room.walls().items():
        other.build(name, tuple(wrapped([change(corner, 1) for corner in piece]) for piece in shape))
    for name, (shape, shut) in room.doors().items():
        other.hang(name, tuple(wrapped([change(corner, 1) for corner in piece]) for piece in shape))
        if not shut:
            other.open_door(name)
    for name, shape in room.bodies().items():
        other.add_body(name, tuple(wrapped([change(corner, 0) for corner in piece]) for piece in shape))
    return other


def some_room(chance):
    """A room with walls, doors and a body of pieces by chance."""
    room = Room(chance.randint(4, 12), chance.randint(4, 12))
    for name in chance.sample("abcdefghijkl", chance.randint(0, 6)):
        shape = tuple(some_piece(chance, -1, 12) for _ in range(chance.randint(1, 3)))
        if chance.random() < 0.6:
            room.build(name, shape)
        else:
            room.hang(name, shape)
            if chance.random() < 0.5:
                room.open_door(name)
    room.add_body("mover", tuple(some_piece(chance, -1, 1) for _ in range(chance.randint(1, 3))))
    return room


def some_free_places(chance, room):
    """A few free places by chance, or none."""
    return [place for place in chance.sample(halves(room), 16) if is_free_place(room, "mover", place)][:5]


def some_piece(chance, least, most):
    x, y = chance.randint(least, most), chance.randint(least, most)
    far = chance.choice((0, 1, 3, 6)) if most > 2 else chance.choice((0, 1, 1, 2))
    spots = [(x + chance.randint(-far, far), y + chance.randint(-far, far)) for _ in range(chance.randint(1, 6))]
    return wrapped(spots)


def changes(room):
    """Functions by which the room may be turned, mirrored or enlarged (see `turned`)."""
    width, height = room.size()
    found = {
        "exchanged": lambda corner, one: (corner[1], corner[0]),
        "left to right": lambda corner, one: (one * width - corner[0], corner[1]),
        "upside down": lambda corner, one: (corner[0], one * height - corner[1]),
        "turned over": lambda corner, one: (one * width - corner[0], one * height - corner[1]),
        "turned left": lambda corner, one: (one * height - corner[1], corner[0]),
    }
    if 3 * max(width, height) <= 1000:
        found["three times"] = lambda corner, one: (3 * corner[0], 3 * corner[1])
    return found


def moved_place(change, place):
    """The place that a change makes of a place."""
    return spot(*change(exact(place), 1))
