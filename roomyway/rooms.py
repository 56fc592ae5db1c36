"""Rooms: their walls, their doors and the bodies that move in them."""

from roomyway.errors import DuplicateThing, InvalidArgument, TooLarge, UnknownThing
from roomyway.points import is_name, is_whole
from roomyway.shapes import is_piece_from

LEAST_SIZE = 2
MOST_SIZE = 1000
MOST_PIECES = 3
MOST_CORNERS = 8
LEAST_OF_ROOM = -1000
MOST_OF_ROOM = 2000
FARTHEST_OF_BODY = 200
MOST_OBSTACLES = 12
MOST_BODIES = 4


def is_shape(thing, least, most):
    """Return True if a thing (anything) is a shape with corners from the least to the most, otherwise False."""
    if not isinstance(thing, tuple) or not 1 <= len(thing) <= MOST_PIECES:
        return False
    return all([is_piece_from(piece, MOST_CORNERS, least, most) for piece in thing])


class Room:
    """A room with walls, doors and bodies, each with a name and a shape."""

    def __init__(self, width, height):
        for size in (width, height):
            if not is_whole(size, LEAST_SIZE, MOST_SIZE):
                raise InvalidArgument("a width and a height are from 2 to 1000")
        self._width = width
        self._height = height
        self._built = {}
        self._hung = {}
        self._moving = {}

    def build(self, name, shape):
        """Add a wall."""
        self._check_obstacle(name, shape)
        self._built[name] = shape

    def hang(self, name, shape):
        """Add a door, which is shut."""
        self._check_obstacle(name, shape)
        self._hung[name] = (shape, True)

    def _check_obstacle(self, name, shape):
        """Raise an error if there can't be a wall or a door of that name and shape besides those that there are."""
        if not is_name(name) or not is_shape(shape, LEAST_OF_ROOM, MOST_OF_ROOM):
            raise InvalidArgument("the name or the shape is malformed")
        if name in self._built or name in self._hung:
            raise DuplicateThing("there is a wall or a door of that name")
        if len(self._built) + len(self._hung) >= MOST_OBSTACLES:
            raise TooLarge("there would be too many walls and doors")

    def add_body(self, name, shape):
        """Add a body."""
        if not is_name(name) or not is_shape(shape, -FARTHEST_OF_BODY, FARTHEST_OF_BODY):
            raise InvalidArgument("the name or the shape is malformed")
        if name in self._moving:
            raise DuplicateThing("there is a body of that name")
        if len(self._moving) >= MOST_BODIES:
            raise TooLarge("there would be too many bodies")
        self._moving[name] = shape

    def drop(self, name):
        """Remove a wall or a door."""
        if is_among(name, self._built):
            del self._built[name]
        elif is_among(name, self._hung):
            del self._hung[name]
        else:
            raise UnknownThing("there is no wall and no door of that name")

    def drop_body(self, name):
        """Remove a body."""
        if not is_among(name, self._moving):
            raise UnknownThing("there is no body of that name")
        del self._moving[name]

    def open_door(self, name):
        """Open a door; nothing changes if it is open."""
        self._turn_door(name, False)

    def shut_door(self, name):
        """Shut a door; nothing changes if it is shut."""
        self._turn_door(name, True)

    def _turn_door(self, name, is_shut):
        """Shut or open a door."""
        if not is_among(name, self._hung):
            raise UnknownThing("there is no door of that name")
        self._hung[name] = (self._hung[name][0], is_shut)

    def size(self):
        """Return the pair of width and height."""
        return (self._width, self._height)

    def walls(self):
        """Return the dict from the names of the walls to their shapes."""
        return dict(self._built)

    def doors(self):
        """Return the dict from the names of the doors to pairs of the shape and True if the door is shut."""
        return dict(self._hung)

    def bodies(self):
        """Return the dict from the names of the bodies to their shapes."""
        return dict(self._moving)

    def copy(self):
        """Return a room that is like this one, and independent of it."""
        other = Room(self._width, self._height)
        other._built = dict(self._built)
        other._hung = dict(self._hung)
        other._moving = dict(self._moving)
        return other


def is_among(name, things):
    """Return True if a name (anything) is one of the names of a dict, otherwise False."""
    # What is no name may be a thing that Python cannot look up in a dict at all.
    return is_name(name) and name in things
