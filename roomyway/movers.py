"""Plans for several movers on lanes, the layers of states that show that there is none, and the judges of both."""

from itertools import pairwise

from roomyway.errors import InvalidArgument, UnknownThing
from roomyway.points import is_corner, is_name, is_whole
from roomyway.rooms import is_among
from roomyway.traffic import Traffic

MOST_STATIONS = 8
MOST_LANES = 12
MOST_MOVERS = 3
MOST_TICKS = 12


def check_task(room, task):
    """Raise an error if a task is out of its bounds, or has a body or a door that is not in the room."""
    if not _is_in_bounds(task):
        raise InvalidArgument("a number or a name of the task is out of its bounds or unknown")
    bodies = room.bodies()
    if not all([is_among(mover[0], bodies) for mover in task["movers"]]):
        raise UnknownThing("there is no body of the name of a mover")
    doors = room.doors()
    if not all([is_among(name, doors) for name in task["open"]]):
        raise UnknownThing("there is no door of a name")


def _is_in_bounds(task):
    """Return True if all of a task is within its bounds and known, but for bodies and doors, otherwise False."""
    stations = task["stations"]
    ticks = task["ticks"]
    if not _are_stations(stations) or not is_whole(ticks, 1, MOST_TICKS):
        return False
    if not _are_lanes(task["lanes"], stations) or not _are_movers(task["movers"], stations, ticks):
        return False
    return all([_are_ticks(opening, ticks - 1) for opening in task["open"].values()])


def _are_stations(stations):
    """Return True if a dict is from 1 to 8 names to corners, otherwise False."""
    if not 1 <= len(stations) <= MOST_STATIONS:
        return False
    return all([is_name(name) and is_corner(stations[name]) for name in stations])


def _are_lanes(lanes, stations):
    """Return True if there are at most 12 lanes, each between two different stations, otherwise False."""
    if len(lanes) > MOST_LANES:
        return False
    return all([is_among(one, stations) and is_among(other, stations) and one != other for one, other in lanes])


def _are_movers(movers, stations, ticks):
    """Return True if there are 1 to 3 movers with different bodies, known stations and right windows."""
    if not 1 <= len(movers) <= MOST_MOVERS:
        return False
    bodies = [mover[0] for mover in movers]
    if not all([bodies.count(body) == 1 for body in bodies]):
        return False
    return all([_is_mover(mover, stations, ticks) for mover in movers])


def _is_mover(mover, stations, ticks):
    """Return True if a mover has known stations and a right window, otherwise False."""
    _, start, goal, earliest, latest = mover
    if not is_among(start, stations) or not is_among(goal, stations):
        return False
    return is_whole(latest, 0, ticks) and is_whole(earliest, 0, latest)


def _are_ticks(opening, last):
    """Return True if the ticks of a tuple are ascending and from 0 to the last one, otherwise False."""
    if not all([is_whole(tick, 0, last) for tick in opening]):
        return False
    return all([tick < after for tick, after in pairwise(opening)])


def is_safe(room, task, tick, first, second):
    """Return True if there is a move from one tuple to another one at a tick, and it is safe, otherwise False."""
    return Traffic(room, task).is_safe(tick, first, second)


def find_plan(room, task):
    """Return ("plan", plan), or ("none", layers) with the states that can be reached and an empty last layer."""
    traffic = Traffic(room, task)
    # Each layer is a dict from its states to the states that they were come to from.
    layers = [{state: None for state in traffic.first_states()}]
    for tick in range(traffic.ticks):
        layers.append(_layer_behind(traffic, tick, layers[tick]))
    if len(layers[-1]) == 0:
        return ("none", tuple([tuple(sorted(layer)) for layer in layers]))
    return ("plan", _plan_through(layers))


def _layer_behind(traffic, tick, layer):
    """Return a dict from the states that can be reached from a layer at a tick to those they are reached from."""
    found = {}
    for state in layer:
        for after in traffic.states_behind(tick, state):
            found[after] = state
    return found


def _plan_through(layers):
    """Return a plan that ends in the last layer."""
    plan = [min(list(layers[-1]))]
    for layer in layers[:0:-1]:
        plan.append(layer[plan[-1]])
    return tuple(plan[::-1])


def takes_plan(room, task, plan):
    """Return True if a tuple of tuples is a plan, otherwise False."""
    traffic = Traffic(room, task)
    if len(plan) != traffic.ticks + 1 or plan[0] not in traffic.first_states():
        return False
    moves = list(pairwise(plan))
    if not all([traffic.is_safe(tick, here, after) for tick, (here, after) in enumerate(moves)]):
        return False
    return all([traffic.keeps_windows(tick, state) for tick, state in enumerate(plan)])


def takes_layers(room, task, layers):
    """Return True if a tuple of tuples has layers, the last of which is empty, otherwise False."""
    traffic = Traffic(room, task)
    if len(layers) != traffic.ticks + 1 or len(layers[-1]) > 0:
        return False
    if not all([_is_layer(traffic, layer) for layer in layers]):
        return False
    if not all([state in layers[0] for state in traffic.first_states()]):
        return False
    return all([_has_all_behind(traffic, tick, layer, layers[tick + 1]) for tick, layer in enumerate(layers[:-1])])


def _is_layer(traffic, layer):
    """Return True if a tuple has states in ascending order, otherwise False."""
    return all([traffic.is_state(state) for state in layer]) and all([here < after for here, after in pairwise(layer)])


def _has_all_behind(traffic, tick, layer, after):
    """Return True if all that can be reached from a layer at a tick is in the layer after it, otherwise False."""
    known = {state: True for state in after}
    return all([state in known for state in _layer_behind(traffic, tick, layer)])
