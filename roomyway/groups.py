"""Tours through several places, groups of places between which free ways lead, and papers for them."""

from itertools import combinations

from roomyway.barriers import find_barrier, takes_barrier
from roomyway.errors import TooLarge
from roomyway.regions import Field
from roomyway.ways import find_way, free_field, takes_way

MOST_PLACES = 8


def tour(room, body, places):
    """Return ("tour", way) with a way through all places in order, or ("cut", k, ring) for the first that it misses."""
    free_field(room, body, places)
    way = (places[0],)
    for k in range(len(places) - 1):
        found = find_way(room, body, places[k], places[k + 1])
        if found is None:
            return ("cut", k, find_barrier(room, body, places[k], places[k + 1]))
        # A place that comes twice in a row is come to twice, by a way of one point.
        way = way + (found[1:] if len(found) > 1 else found)
    return ("tour", way)


def groups(room, body, places):
    """Return the list of the groups of free places."""
    _check_few_places(room, body, places)
    found = []
    for k, place in enumerate(places):
        mine = [group for group in found if find_barrier(room, body, places[group[0]], place) is None]
        if len(mine) > 0:
            mine[0].append(k)
        else:
            found.append([k])
    return found


def _check_few_places(room, body, places):
    """Raise the errors of a tour, and TooLarge if there are too many places."""
    free_field(room, body, places)
    if len(places) > MOST_PLACES:
        raise TooLarge("there are too many places")


def groups_paper(room, body, places):
    """Return the paper for the groups: a dict from pairs of indexes to free ways and barriers."""
    _check_few_places(room, body, places)
    paper = {}
    for i, j in _pairs(places):
        way = find_way(room, body, places[i], places[j])
        paper[(i, j)] = find_barrier(room, body, places[i], places[j]) if way is None else way
    return paper


def _pairs(places):
    """Return the list of the pairs of indexes of places, each with the lower one first."""
    return list(combinations(range(len(places)), 2))


def takes_groups(room, body, places, found, paper):
    """Return True if a list is that of the groups and a dict is a paper for it, otherwise False."""
    field = Field(room, body)
    if not all([field.has_free(place) for place in places]):
        return False
    before = {k: [] for k in range(len(places))}
    for i, j in _pairs(places):
        shown = paper.get((i, j))
        if not isinstance(shown, tuple):
            return False
        if takes_way(room, body, places[i], places[j], shown):
            before[j].append(i)
        elif not takes_barrier(room, body, places[i], places[j], shown):
            return False
    return found == _grouped(before)


def _grouped(before):
    """Return the list of the groups, from a dict from indexes to the list of those before them in their group."""
    firsts = [k for k in before if len(before[k]) == 0]
    return [[k for k in before if k == first or first in before[k]] for first in firsts]
