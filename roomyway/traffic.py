"""The moves of the movers of a task: which there are, and which of them are safe."""

from itertools import combinations

from roomyway.planes import WITHIN, is_clear, planes_of, segment
from roomyway.points import point
from roomyway.regions import Field, shape_of
from roomyway.rooms import is_among
from roomyway.shapes import sum_of, turned_over


class Traffic:
    """The moves of a task, looked at when they are asked for, each one once.

    Movers are given by their numbers in the task, and the move of one mover by a pair of stations.
    """

    def __init__(self, room, task):
        self.hall = room
        self.movers = task["movers"]
        self.stations = dict(task["stations"])
        self.ticks = task["ticks"]
        self.passable = dict(task["open"])
        self.starts = tuple([start for _, start, _, _, _ in self.movers])
        self.reach = _beside(self.stations, task["lanes"])
        self.fields = {}
        self.sums = {}
        # What was found out: of a mover, its move and a tick, and of two movers and their moves.
        self.led = {}
        self.kept = {}

    def is_state(self, thing):
        """Return True if a thing is a tuple with a station for each mover, otherwise False."""
        if not isinstance(thing, tuple) or len(thing) != len(self.movers):
            return False
        return all([is_among(name, self.stations) for name in thing])

    def keeps_windows(self, tick, state):
        """Return True if a state breaks no window at a tick, otherwise False."""
        return all([self._is_in_window(tick, k, name) for k, name in enumerate(state)])

    def _is_in_window(self, tick, k, name):
        """Return True if the mover number k may be at a station at a tick, otherwise False."""
        _, start, goal, earliest, latest = self.movers[k]
        if tick <= earliest and name != start:
            return False
        return tick < latest or name == goal

    def is_safe(self, tick, first, second):
        """Return True if there is a move between two tuples, from a tick to the next one, and it is safe."""
        if not self.is_state(first) or not self.is_state(second):
            return False
        moves = list(zip(first, second))
        if not all([there in self.reach[here] for here, there in moves]):
            return False
        if not all([self._leads(tick, k, move) for k, move in enumerate(moves)]):
            return False
        return all([self._stay_apart(j, k, moves[j], moves[k]) for j, k in combinations(range(len(moves)), 2)])

    def first_states(self):
        """Return the list with the state of the starts, if a plan can begin with it, otherwise an empty list."""
        if self.is_safe(0, self.starts, self.starts) and self.keeps_windows(0, self.starts):
            return [self.starts]
        return []

    def states_behind(self, tick, state):
        """Return the list of the states to which a safe move leads at a tick, and that break no window at the next."""
        chosen = [[]]
        for k, here in enumerate(state):
            steps = [there for there in self.reach[here] if self._is_in_window(tick + 1, k, there)]
            moves = [(here, there) for there in steps if self._leads(tick, k, (here, there))]
            # What was chosen for the movers before is safe already.
            chosen = [before + [move] for before in chosen for move in moves if self._adds_safely(before, move)]
        return [tuple([there for _, there in moves]) for moves in chosen]

    def _adds_safely(self, before, move):
        """Return True if a move of the next mover goes with those of the movers before it, otherwise False."""
        return all([self._stay_apart(j, len(before), other, move) for j, other in enumerate(before)])

    def _leads(self, tick, k, move):
        """Return True if the move of the mover number k is apart from its regions at a tick, otherwise False."""
        if (tick, k, move) not in self.led:
            here, there = move
            field = self._field(k, tick)
            self.led[(tick, k, move)] = field.leads_free(point(self.stations[here]), point(self.stations[there]))
        return self.led[(tick, k, move)]

    def _field(self, k, tick):
        """Return the field of the mover number k from a tick to the next one."""
        now_open = tuple([name for name in sorted(self.passable) if tick in self.passable[name]])
        if (k, now_open) not in self.fields:
            room = self.hall.copy()
            for name in self.passable:
                if name in now_open:
                    room.open_door(name)
                else:
                    room.shut_door(name)
            self.fields[(k, now_open)] = Field(room, self.movers[k][0])
        return self.fields[(k, now_open)]

    def _stay_apart(self, j, k, first, second):
        """Return True if the movers number j and k do not touch during their moves, otherwise False."""
        if (j, k, first, second) not in self.kept:
            begin = self._gap(first[0], second[0])
            end = self._gap(first[1], second[1])
            self.kept[(j, k, first, second)] = is_clear(segment(begin, end), self._sums(j, k), WITHIN)
        return self.kept[(j, k, first, second)]

    def _gap(self, first, second):
        """Return the point of the corner of the first station less that of the second one."""
        (ax, ay), (bx, by) = self.stations[first], self.stations[second]
        return point((ax - bx, ay - by))

    def _sums(self, j, k):
        """Return the list of the fences of what the gap of the movers number j and k must keep out of."""
        if (j, k) not in self.sums:
            first = [turned_over(piece) for piece in shape_of(self.hall, self.movers[j][0])]
            second = shape_of(self.hall, self.movers[k][0])
            self.sums[(j, k)] = [planes_of(sum_of(one, other)) for one in second for other in first]
        return self.sums[(j, k)]


def _beside(stations, lanes):
    """Return a dict from each station to the ascending list of those to which a move leads, itself included."""
    found = {name: {name: True} for name in stations}
    for one, other in lanes:
        found[one][other] = True
        found[other][one] = True
    return {name: sorted(found[name]) for name in found}
