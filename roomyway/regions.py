"""Regions: what a body must keep out of, and the places that it may have."""

from roomyway.errors import UnknownThing
from roomyway.planes import INSIDE, WITHIN, is_clear, part_in, planes_of, segment
from roomyway.rooms import is_among
from roomyway.shapes import sum_of, turned_over

FRAME = 4000


def regions(room, body):
    """Return the list of the regions of a body, in the documented order."""
    pieces = [turned_over(piece) for piece in shape_of(room, body)]
    obstacles = _frame(room) + _obstacles(room)
    return [sum_of(obstacle, piece) for piece in pieces for obstacle in obstacles]


def shape_of(room, body):
    """Return the shape of a body; raise UnknownThing if there is no such body."""
    shapes = room.bodies()
    if not is_among(body, shapes):
        raise UnknownThing("there is no body of that name")
    return shapes[body]


def _frame(room):
    """Return the four pieces of the frame: left, right, lower, upper."""
    width, height = room.size()
    right = width + FRAME
    top = height + FRAME
    return [
        _upright(-FRAME, -FRAME, 0, top),
        _upright(width, -FRAME, right, top),
        _upright(-FRAME, -FRAME, right, 0),
        _upright(-FRAME, height, right, top),
    ]


def _upright(left, bottom, right, top):
    """Return the piece that is an upright rectangle."""
    return ((left, bottom), (right, bottom), (right, top), (left, top))


def _obstacles(room):
    """Return the list of the pieces of the walls, then of the shut doors, both in ascending order of names."""
    walls = room.walls()
    doors = room.doors()
    shapes = [walls[name] for name in sorted(walls)]
    shapes.extend([doors[name][0] for name in sorted(doors) if doors[name][1]])
    return [piece for shape in shapes for piece in shape]


def is_free(room, body, place):
    """Return True if the place of the body is free, otherwise False."""
    return Field(room, body).has_free(place)


class Field:
    """The regions of a body and the bounds of its places, made ready to be asked many times."""

    def __init__(self, room, body):
        self.around = regions(room, body)
        self.fences = [planes_of(region) for region in self.around]
        width, height = room.size()
        corners = [corner for piece in shape_of(room, body) for corner in piece]
        # A place from left to right and from bottom to top keeps the body within the closed rectangle of the room.
        self.left = -min([x for x, _ in corners])
        self.right = width - max([x for x, _ in corners])
        self.bottom = -min([y for _, y in corners])
        self.top = height - max([y for _, y in corners])

    def has_free(self, place):
        """Return True if a place is free, otherwise False."""
        return self._bounds(place, INSIDE) and self.leads_free(place, place)

    def has_loose(self, place):
        """Return True if a place is loose, otherwise False."""
        return self._bounds(place, WITHIN) and self.leads_loose(place, place)

    def _bounds(self, place, depth):
        """Return True if a place is within (or inside of) the bounds, otherwise False."""
        limits = [(1, 0, self.left), (-1, 0, -self.right), (0, 1, self.bottom), (0, -1, -self.top)]
        return part_in(segment(place, place), limits, depth) is not None

    def leads_free(self, a, b):
        """Return True if the stretch from a to b is apart from each region, otherwise False."""
        return is_clear(segment(a, b), self.fences, WITHIN)

    def leads_loose(self, a, b):
        """Return True if the stretch from a to b enters no region, otherwise False."""
        return is_clear(segment(a, b), self.fences, INSIDE)
