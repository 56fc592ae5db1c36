"""Keepers: a room and requests in it, whose answers are kept right while the room changes."""

from roomyway.barriers import find_barrier, takes_barrier
from roomyway.errors import DuplicateThing, InvalidArgument, NothingToUndo, TooLarge, UnknownThing
from roomyway.points import is_name
from roomyway.regions import is_free, regions
from roomyway.rooms import Room, is_among
from roomyway.ways import MOST_REGIONS, find_way, takes_way

MOST_REQUESTS = 6
STUCK = ("stuck",)


class Keeper:
    """A room and requests, with an answer for each request that is right for the room as it is.

    Rooms and dicts of requests are never changed once they are taken over, so that those of before can be kept as they
    are, to be taken over again.
    """

    def __init__(self, width, height):
        self._now = Room(width, height)
        self._asked = {}
        self._told = {}
        self._turned = []
        # For each change that can be taken back: the room and the requests before it.
        self._past = []

    def build(self, name, shape):
        """Add a wall."""
        room = self._now.copy()
        room.build(name, shape)
        self._change(room, self._asked)

    def hang(self, name, shape):
        """Add a door, which is shut."""
        room = self._now.copy()
        room.hang(name, shape)
        self._change(room, self._asked)

    def add_body(self, name, shape):
        """Add a body."""
        room = self._now.copy()
        room.add_body(name, shape)
        self._change(room, self._asked)

    def drop(self, name):
        """Remove a wall or a door."""
        room = self._now.copy()
        room.drop(name)
        self._change(room, self._asked)

    def drop_body(self, name):
        """Remove a body."""
        room = self._now.copy()
        room.drop_body(name)
        self._change(room, self._asked)

    def open_door(self, name):
        """Open a door; it is no change if it is open."""
        room = self._now.copy()
        room.open_door(name)
        self._change_doors(room)

    def shut_door(self, name):
        """Shut a door; it is no change if it is shut."""
        room = self._now.copy()
        room.shut_door(name)
        self._change_doors(room)

    def _change_doors(self, room):
        """Change to a room whose doors may have been opened or shut, if one was."""
        if room.doors() != self._now.doors():
            self._change(room, self._asked)

    def ask(self, name, body, start, goal):
        """Add a request."""
        if not is_name(name):
            raise InvalidArgument("the name is malformed")
        if name in self._asked:
            raise DuplicateThing("there is a request of that name")
        if not is_among(body, self._now.bodies()):
            raise UnknownThing("there is no body of that name")
        if len(self._asked) >= MOST_REQUESTS:
            raise TooLarge("there would be too many requests")
        self._change(self._now, {**self._asked, name: (body, start, goal)})

    def forget(self, name):
        """Drop a request."""
        self._check_request(name)
        self._change(self._now, {other: self._asked[other] for other in self._asked if other != name})

    def _check_request(self, name):
        """Raise UnknownThing if there is no request of that name."""
        if not is_among(name, self._asked):
            raise UnknownThing("there is no request of that name")

    def undo(self):
        """Take back the last change that was not taken back."""
        if len(self._past) == 0:
            raise NothingToUndo("there is no change to be taken back")
        room, asked = self._past[-1]
        self._take_over(room, asked)
        self._past.pop()

    def _change(self, room, asked):
        """Take over a room and requests as a change that can be taken back."""
        before = (self._now, self._asked)
        self._take_over(room, asked)
        self._past.append(before)

    def _take_over(self, room, asked):
        """Take over a room and requests, and bring the answers to them; raise TooLarge without changing anything."""
        for body, _, _ in asked.values():
            if is_among(body, room.bodies()) and len(regions(room, body)) > MOST_REGIONS:
                raise TooLarge("a body with a request would have too many regions")
        told = {name: _answer(room, asked[name], self._told.get(name, STUCK)) for name in asked}
        self._turned = sorted([name for name in told if name in self._told and told[name] != self._told[name]])
        self._now = room
        self._asked = asked
        self._told = told

    def room(self):
        """Return a copy of the room."""
        return self._now.copy()

    def requests(self):
        """Return the dict from the names of the requests to tuples (body, start, goal)."""
        return dict(self._asked)

    def answer(self, name):
        """Return the answer of a request."""
        self._check_request(name)
        return self._told[name]

    def changed(self):
        """Return the list of the requests that have another answer since the last change (or undo)."""
        return list(self._turned)


def _answer(room, request, before):
    """Return the right answer for a request: the one of before, if that is still right."""
    body, start, goal = request
    if not is_among(body, room.bodies()) or not is_free(room, body, start) or not is_free(room, body, goal):
        return STUCK
    if before[0] == "way" and takes_way(room, body, start, goal, before[1]):
        return before
    if before[0] == "barrier" and takes_barrier(room, body, start, goal, before[1]):
        return before
    way = find_way(room, body, start, goal)
    if way is not None:
        return ("way", way)
    return ("barrier", find_barrier(room, body, start, goal))
