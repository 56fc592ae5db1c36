"""Slow judges of tasks, moves, plans and layers that follow the document's words by Python's fractions."""

from fractions import Fraction
from itertools import combinations, product

from helpers import meets, overlap, regions_of, some_piece, some_room, spot, wrapped


def room_at(room, task, tick):
    """The room with the doors as they are from a tick to the next one."""
    other = room.copy()
    for name, ticks in task["open"].items():
        (other.open_door if tick in ticks else other.shut_door)(name)
    return other


class Slow:
    """The moves of a task, by the words of point 21; what was found out is kept, since it is slow."""

    def __init__(self, room, task):
        self.room, self.task = room, task
        self.stations, self.movers = task["stations"], task["movers"]
        self.lanes = [set(lane) for lane in task["lanes"]]
        self.kept = {}

    def once(self, work, *key):
        if (work.__name__, key) not in self.kept:
            self.kept[(work.__name__, key)] = work(*key)
        return self.kept[(work.__name__, key)]

    def around(self, body, tick):
        return regions_of(room_at(self.room, self.task, tick), body)

    def is_apart(self, body, tick, here, there):
        a, b = spot(*self.stations[here]), spot(*self.stations[there])
        return not any(meets(a, b, region) for region in self.once(self.around, body, tick))

    def gap(self, first, second):
        return spot(*[a - b for a, b in zip(self.stations[first], self.stations[second])])

    def are_apart(self, body, other, here, there, other_here, other_there):
        a, b = self.gap(here, other_here), self.gap(there, other_there)
        bodies = self.room.bodies()
        for piece, other_piece in product(bodies[body], bodies[other]):
            sums = wrapped([(x - dx, y - dy) for x, y in other_piece for dx, dy in piece])
            if meets(a, b, sums):
                return False
        return True

    def is_state(self, state):
        return type(state) is tuple and len(state) == len(self.movers) and all(name in self.stations for name in state)

    def is_safe(self, tick, first, second):
        if not self.is_state(first) or not self.is_state(second):
            return False
        if any(here != there and {here, there} not in self.lanes for here, there in zip(first, second)):
            return False
        for mover, here, there in zip(self.movers, first, second):
            if not self.once(self.is_apart, mover[0], tick, here, there):
                return False
        for j, k in combinations(range(len(first)), 2):
            bodies = self.movers[j][0], self.movers[k][0]
            if not self.once(self.are_apart, *bodies, first[j], second[j], first[k], second[k]):
                return False
        return True

    def keeps_windows(self, tick, state):
        for name, (_, start, goal, earliest, latest) in zip(state, self.movers):
            if tick <= earliest and name != start or tick >= latest and name != goal:
                return False
        return True

    def first(self):
        starts = tuple(mover[1] for mover in self.movers)
        return [starts] if self.is_safe(0, starts, starts) and self.keeps_windows(0, starts) else []

    def behind(self, tick, states):
        """The ascending list of all states that safe moves lead to and that break no window."""
        found = []
        for after in product(sorted(self.stations), repeat=len(self.movers)):
            if self.keeps_windows(tick + 1, after) and any(self.is_safe(tick, state, after) for state in states):
                found.append(after)
        return found

    def layers(self):
        found = [self.first()]
        for tick in range(self.task["ticks"]):
            found.append(self.behind(tick, found[-1]))
        return tuple(tuple(layer) for layer in found)

    def is_plan(self, plan):
        """Whether a tuple is a plan, by the words of point 22."""
        if len(plan) != self.task["ticks"] + 1 or plan[0] not in self.first():
            return False
        if not all(self.is_safe(tick, plan[tick], plan[tick + 1]) for tick in range(self.task["ticks"])):
            return False
        return all(self.keeps_windows(tick, state) for tick, state in enumerate(plan))

    def are_layers(self, layers):
        """Whether a tuple has layers with an empty last one, by the words of point 22."""
        if len(layers) != self.task["ticks"] + 1 or layers[-1]:
            return False
        if not all(self.is_state(state) for layer in layers for state in layer):
            return False
        if not all(list(layer) == sorted(set(layer)) for layer in layers) or not set(self.first()) <= set(layers[0]):
            return False
        return all(set(self.behind(tick, layers[tick])) <= set(layers[tick + 1]) for tick in range(self.task["ticks"]))

    def touch_at(self, tick, first, second, share):
        """Whether at a moment between two ticks a body touches anything, looked at without any region or gap."""
        now = room_at(self.room, self.task, tick)
        width, height = now.size()
        walls = [shape for shape in now.walls().values()] + [shape for shape, shut in now.doors().values() if shut]
        moved = []
        for (body, *_), here, there in zip(self.movers, first, second):
            (ax, ay), (bx, by) = self.stations[here], self.stations[there]
            x, y = ax + (bx - ax) * share, ay + (by - ay) * share
            moved.append([tuple((x + dx, y + dy) for dx, dy in piece) for piece in now.bodies()[body]])
        corners = [corner for body in moved for piece in body for corner in piece]
        if not all(0 < x < width and 0 < y < height for x, y in corners):
            return True
        if any(overlap(piece, wall) for body in moved for piece in body for shape in walls for wall in shape):
            return True
        return any(overlap(p, q) for one, other in combinations(moved, 2) for p, q in product(one, other))


def some_task(chance):
    """A room with up to three bodies, and a task in it, by chance."""
    room = some_room(chance)
    room.drop_body("mover")
    for name in sorted(room.walls()):
        if chance.random() < 0.6:
            room.drop(name)
    bodies = ["one", "two", "three"][:chance.choice((1, 2, 2, 2, 3))]
    for body in bodies:
        room.add_body(body, tuple(some_piece(chance, -1, 1) for _ in range(chance.choice((1, 1, 2)))))
    width, height = room.size()
    corners = [(chance.randint(1, width - 1), chance.randint(1, height - 1)) for _ in range(chance.randint(2, 5))]
    stations = {name: corner for name, corner in zip("badce", corners)}
    pairs = list(combinations(stations, 2))
    lanes = tuple(chance.choice((pair, pair[::-1])) for pair in chance.sample(pairs, chance.randint(1, len(pairs))))
    ticks = chance.randint(1, 4)
    movers = []
    for body in bodies:
        latest = chance.randint(0, ticks) if chance.random() < 0.3 else ticks
        start, goal = chance.choice(list(stations)), chance.choice(list(stations))
        movers.append((body, start, goal, chance.randint(0, latest) if chance.random() < 0.3 else 0, latest))
    opening = {name: tuple(sorted(chance.sample(range(ticks), chance.randint(0, ticks))))
               for name in room.doors() if chance.random() < 0.7}
    return room, {"stations": stations, "lanes": lanes[:12], "movers": tuple(movers), "ticks": ticks, "open": opening}


def moments():
    return [Fraction(k, 12) for k in range(13)]
