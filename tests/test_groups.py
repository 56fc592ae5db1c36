"""Point 29: tours, groups of places, papers for them and the judge of papers."""

import random
import unittest
from itertools import combinations

from cases import AROUND, BLOCKED, CASES, LEFT, RIGHT, SHUT, crowded, nested_rings, ring_of_boxes
from helpers import POINT, SQUARE, a_room, box, is_barrier, is_free_way, some_free_places, some_room, spot, wrapped

from roomyway import groups as groups_file
from roomyway.barriers import find_barrier
from roomyway.errors import NotFree, TooLarge, UnknownThing
from roomyway.groups import groups, groups_paper, takes_groups, tour
from roomyway.regions import regions
from roomyway.ways import find_way

# Two walls from frame to frame cut a room in three.
THREE = a_room(20, 10, walls=[(((5, 0), (5, 10)),), (((12, 0), (14, 10)),)], body=(POINT,))
PLACES = [spot(8, 5), spot(2, 2), spot(17, 1), spot(9, 2), spot(3, 8), spot(8, 5), spot(16, 9), spot("1/2", "1/3")]
GROUPS = [[0, 3, 5], [1, 4, 7], [2, 6]]


def some_cut_room(chance):
    """A room by chance, with walls that lead from the bottom to the top."""
    room = some_room(chance)
    width, height = room.size()
    for name in "xyz"[:chance.randint(0, 3)]:
        room.build(name, (wrapped([(chance.randint(1, width - 1), 0), (chance.randint(1, width - 1), height)]),))
    return room


def is_tour(room, body, places, way):
    """Whether a way is a tour, by the words of point 29, with a point of its own for each place."""
    if not is_free_way(room, body, places[0], places[-1], way):
        return False
    points = list(way)
    for place in places:
        if place not in points:
            return False
        points = points[points.index(place) + 1:]
    return True


class Case(unittest.TestCase):

    def refused(self, error, call, room, body, places):
        before = list(places)
        with self.subTest(call=call.__name__, places=places):
            with self.assertRaises(error) as caught:
                call(room, body, places)
            self.assertIs(type(caught.exception), error)
            self.assertEqual(places, before)


class Tours(Case):

    def check(self, room, places):
        """Check a tour or a cut, by the words of the document."""
        before = list(places)
        answer = tour(room, "mover", places)
        self.assertEqual(places, before)
        self.assertEqual(tour(room, "mover", places), answer)
        self.assertIs(type(answer), tuple)
        free = [find_way(room, "mover", a, b) is not None for a, b in zip(places, places[1:])]
        if all(free):
            self.assertEqual((len(answer), answer[0], type(answer[1])), (2, "tour", tuple))
            self.assertTrue(is_tour(room, "mover", places, answer[1]), answer)
        else:
            self.assertEqual((len(answer), answer[0], answer[1]), (3, "cut", free.index(False)))
            ends = places[answer[1]], places[answer[1] + 1]
            self.assertTrue(is_barrier(room, "mover", *ends, answer[2]))
        return answer

    def test_a_tour(self):
        room = AROUND
        for places in (
            [LEFT, RIGHT], [LEFT, spot(8, 8), RIGHT], [LEFT, RIGHT, LEFT], [RIGHT, spot(1, 1), spot(18, 1), LEFT],
            [spot(1, 1), spot(2, 2), spot(3, 3)], [spot(k, 8) for k in range(1, 19)],
        ):
            self.assertEqual(self.check(room, places)[0], "tour")

    def test_one_place(self):
        self.assertEqual(self.check(AROUND, [LEFT]), ("tour", (LEFT,)))
        self.assertEqual(self.check(BLOCKED, [RIGHT]), ("tour", (RIGHT,)))

    def test_equal_places(self):
        for places in ([LEFT, LEFT], [LEFT] * 5, [LEFT, LEFT, RIGHT, RIGHT, LEFT], [LEFT, RIGHT, RIGHT]):
            self.assertEqual(self.check(AROUND, places)[0], "tour")
        self.assertEqual(self.check(BLOCKED, [LEFT, LEFT])[0], "tour")

    def test_places_that_come_again(self):
        self.assertEqual(self.check(AROUND, [LEFT, RIGHT] * 4)[0], "tour")
        self.assertEqual(self.check(AROUND, [RIGHT, spot(8, 8), LEFT, spot(8, 8), RIGHT])[0], "tour")

    def test_cuts(self):
        self.assertEqual(self.check(BLOCKED, [LEFT, RIGHT])[:2], ("cut", 0))
        self.assertEqual(self.check(BLOCKED, [LEFT, spot(1, 1), LEFT, LEFT, RIGHT])[:2], ("cut", 3))
        self.assertEqual(self.check(BLOCKED, [LEFT, RIGHT, LEFT, RIGHT])[:2], ("cut", 0))
        self.assertEqual(self.check(BLOCKED, [RIGHT, spot(17, 1), LEFT, RIGHT])[:2], ("cut", 1))
        self.assertEqual(self.check(THREE, [spot(1, 1), spot(2, 2), spot(8, 2), spot(1, 1)])[:2], ("cut", 1))

    def test_more_than_eight_places(self):
        self.assertEqual(self.check(AROUND, [LEFT, RIGHT] * 10)[0], "tour")
        self.assertEqual(self.check(BLOCKED, [LEFT] * 20 + [RIGHT])[:2], ("cut", 19))

    def test_each_case(self):
        for name, (room, start, goal, is_there) in CASES.items():
            with self.subTest(name=name):
                self.assertEqual(self.check(room, [start, goal, start])[0], "tour" if is_there else "cut")

    def test_by_chance(self):
        chance = random.Random(29)
        told = {"tour": 0, "cut": 0}
        for _ in range(120):
            room = some_cut_room(chance)
            free = some_free_places(chance, room)
            if free and len(regions(room, "mover")) <= 60:
                places = [chance.choice(free) for _ in range(chance.randint(1, 6))]
                told[self.check(room, places)[0]] += 1
        self.assertGreater(min(told.values()), 5)

    def test_errors(self):
        for name in ("a", "movers", ""):
            self.refused(UnknownThing, tour, AROUND, name, [LEFT])
            self.refused(UnknownThing, tour, AROUND, name, [spot(0, 0)])
        for place in (spot(0, 5), spot(8, 5), spot(-5, 5), spot(10 ** 9, 5)):
            for places in ([place], [LEFT, place], [place, LEFT], [LEFT, RIGHT, place], [LEFT, place, RIGHT]):
                self.refused(NotFree, tour, AROUND, "mover", places)
        # Even if it is cut before that place.
        self.refused(NotFree, tour, BLOCKED, "mover", [LEFT, RIGHT, spot(8, 5)])

    def test_too_many_regions(self):
        room = crowded(17)
        for places in ([spot(1, 1)], [spot(1, 1)] * 2, [spot(1, 1), spot(1, 2), spot(1, 1)]):
            self.refused(TooLarge, tour, room, "mover", places)
        self.refused(NotFree, tour, room, "mover", [spot(1, 1), spot(0, 0)])
        self.refused(UnknownThing, tour, room, "body", [spot(1, 1)])
        self.assertEqual(self.check(crowded(16), [spot(1, 1), spot("103/2", 1), spot(1, 2)])[0], "tour")

    def test_each_is_defined_in_its_file(self):
        for name in ("tour", "groups", "groups_paper", "takes_groups"):
            self.assertEqual(getattr(groups_file, name).__module__, "roomyway.groups")


class Groups(Case):

    def check(self, room, places, expected=None):
        before = list(places)
        found = groups(room, "mover", places)
        if expected is not None:
            self.assertEqual(found, expected)
        self.assertIs(type(found), list)
        self.assertTrue(all(type(group) is list for group in found))
        paper = groups_paper(room, "mover", places)
        self.assertIs(type(paper), dict)
        self.assertEqual(set(paper), set(combinations(range(len(places)), 2)))
        self.assertEqual(sorted(k for group in found for k in group), list(range(len(places))))
        self.assertTrue(all(group == sorted(group) for group in found))
        self.assertEqual([group[0] for group in found], sorted(group[0] for group in found))
        of = {k: group[0] for group in found for k in group}
        for (i, j), shown in paper.items():
            self.assertIs(type(shown), tuple)
            right = is_free_way if of[i] == of[j] else is_barrier
            self.assertTrue(right(room, "mover", places[i], places[j], shown), (i, j))
        self.assertIs(takes_groups(room, "mover", places, found, paper), True)
        self.assertEqual(places, before)
        self.assertEqual((groups(room, "mover", places), groups_paper(room, "mover", places)), (found, paper))

    def test_three_groups(self):
        self.check(THREE, PLACES, GROUPS)
        self.check(THREE, PLACES[::-1], [[0, 3, 6], [1, 5], [2, 4, 7]])

    def test_no_place_and_one_place(self):
        self.check(THREE, [], [])
        self.check(THREE, [spot(1, 1)], [[0]])

    def test_equal_places(self):
        self.check(THREE, [spot(1, 1)] * 2, [[0, 1]])
        self.check(THREE, [spot(1, 1)] * 8, [[0, 1, 2, 3, 4, 5, 6, 7]])
        self.check(THREE, [spot(1, 1), spot(8, 1)] * 2, [[0, 2], [1, 3]])

    def test_all_apart_and_all_together(self):
        rings = nested_rings(None)
        places = [spot(10, 10), spot(7, 7), spot(5, 5), spot(3, 3), spot(1, 1)]
        self.check(rings, places, [[0, 1, 2, 3, 4]])
        self.check(nested_rings(6), places, [[0, 1], [2, 3, 4]])
        cells = a_room(20, 10, walls=[(((x, 0), (x, 10)),) for x in range(2, 16, 2)], body=(POINT,))
        self.check(cells, [spot(2 * k + 1, 5) for k in range(8)], [[k] for k in range(8)])

    def test_doors(self):
        room = SHUT.copy()
        self.check(room, [LEFT, RIGHT, LEFT], [[0, 2], [1]])
        room.open_door("b")
        self.check(room, [LEFT, RIGHT, LEFT], [[0, 1, 2]])
        self.check(ring_of_boxes(False), [spot(7, 7), spot(1, 1), spot(8, 8)], [[0, 2], [1]])
        self.check(ring_of_boxes(True), [spot(7, 7), spot(1, 1), spot(8, 8)], [[0, 1, 2]])

    def test_each_case(self):
        for name, (room, start, goal, is_there) in CASES.items():
            with self.subTest(name=name):
                self.check(room, [start, goal], [[0, 1]] if is_there else [[0], [1]])

    def test_by_chance(self):
        chance = random.Random(290)
        many = {}
        for _ in range(80):
            room = some_cut_room(chance)
            free = some_free_places(chance, room)
            if free and len(regions(room, "mover")) <= 60:
                places = [chance.choice(free) for _ in range(chance.randint(1, 6))]
                self.check(room, places)
                many[len(groups(room, "mover", places))] = True
        self.assertTrue({1, 2, 3} <= set(many))

    def test_lists_and_dicts_belong_to_the_caller(self):
        found, paper = groups(THREE, "mover", PLACES), groups_paper(THREE, "mover", PLACES)
        found[0].append(9)
        found.clear()
        paper.clear()
        self.check(THREE, PLACES, GROUPS)

    def test_at_most_eight_places(self):
        self.check(AROUND, [LEFT, RIGHT] * 4, [[0, 1, 2, 3, 4, 5, 6, 7]])
        for call in (groups, groups_paper):
            self.refused(TooLarge, call, AROUND, "mover", [LEFT] * 9)
            self.refused(TooLarge, call, BLOCKED, "mover", [LEFT, RIGHT] * 10)

    def test_errors(self):
        for call in (groups, groups_paper):
            for places in ([], [LEFT], [spot(0, 0)], [LEFT] * 9, [spot(0, 0)] * 9):
                self.refused(UnknownThing, call, AROUND, "a", places)
            for place in (spot(0, 5), spot(8, 5), spot(-5, 5), spot(10 ** 9, 5)):
                for places in ([place], [LEFT, place], [place, RIGHT], [LEFT] * 8 + [place], [place] * 9):
                    self.refused(NotFree, call, AROUND, "mover", places)

    def test_too_many_regions(self):
        room = crowded(17)
        for call in (groups, groups_paper):
            for places in ([spot(1, 1)], [spot(1, 1), spot(1, 2)], [spot(1, 1)] * 9):
                self.refused(TooLarge, call, room, "mover", places)
            self.refused(NotFree, call, room, "mover", [spot(0, 0)])
            self.refused(UnknownThing, call, room, "body", [spot(1, 1)])
        self.check(crowded(16), [spot(1, 1), spot("103/2", 1), spot(1, 2)], [[0, 1, 2]])


class Judge(Case):

    def setUp(self):
        self.paper = groups_paper(THREE, "mover", PLACES)

    def check(self, expected, found=GROUPS, room=THREE, places=PLACES, **changes):
        """Judge groups and the paper, with some pairs ("p01" for (0, 1)) changed, or left out by None."""
        paper = {**self.paper, **{(int(key[1]), int(key[2])): shown for key, shown in changes.items()}}
        paper = {pair: shown for pair, shown in paper.items() if shown is not None}
        before = repr((found, paper, places))
        with self.subTest(found=found, changes=changes):
            self.assertIs(takes_groups(room, "mover", places, found, paper), expected)
        self.assertEqual(repr((found, paper, places)), before)

    def test_right_ones(self):
        self.check(True)
        self.assertIs(takes_groups(THREE, "mover", [], [], {}), True)
        self.assertIs(takes_groups(THREE, "mover", [spot(1, 1)], [[0]], {}), True)

    def test_wrong_groups(self):
        for found in (
            [], [[0, 3, 5], [1, 4, 7]], [[0, 3, 5], [2, 6]], [[1, 4, 7], [2, 6]], GROUPS + [[]], [[]] + GROUPS,
            GROUPS + GROUPS[2:], GROUPS[:1] + GROUPS, GROUPS[::-1], [GROUPS[1], GROUPS[0], GROUPS[2]],
            [[0, 5, 3], [1, 4, 7], [2, 6]], [[0, 3, 5], [7, 4, 1], [2, 6]], [[0, 3], [1, 4, 7], [2, 6]],
            [[0, 3, 5], [1, 4, 7], [2]], [[0, 3, 5], [1, 4, 7], [2], [6]], [[0], [1, 4, 7], [2, 6], [3, 5]],
            [[0, 1, 3, 4, 5, 7], [2, 6]], [[0, 1, 2, 3, 4, 5, 6, 7]], [[k] for k in range(8)],
            [[0, 3, 5, 5], [1, 4, 7], [2, 6]], [[0, 3, 5, 8], [1, 4, 7], [2, 6]], [[0, 3, 5], [1, 4, 7], [2, 6], [8]],
            [[0, 3, 4], [1, 5, 7], [2, 6]], [[-1, 3, 5], [1, 4, 7], [2, 6]], [[0, 3, 5, 6], [1, 4, 7], [2, 6]],
        ):
            self.check(False, found)

    def test_wrong_groups_for_one_place_or_none(self):
        for found in ([], [[]], [[1]], [[0], [0]], [[0, 0]], [[0], []], [[0], [1]]):
            self.assertIs(takes_groups(THREE, "mover", [spot(1, 1)], found, {}), False)
        for found in ([[]], [[0]], [[], []]):
            self.assertIs(takes_groups(THREE, "mover", [], found, {}), False)

    def test_missing_pairs(self):
        for i, j in combinations(range(8), 2):
            self.check(False, **{f"p{i}{j}": None})
        self.assertIs(takes_groups(THREE, "mover", PLACES, GROUPS, {}), False)

    def test_other_keys_do_not_matter(self):
        self.check(True, p10=(), p33=(spot(0, 0),), p88=())
        paper = {**self.paper, "a": 1, (): None, 5: (), (0, 1, 2): ()}
        self.assertIs(takes_groups(THREE, "mover", PLACES, GROUPS, paper), True)
        turned = {(j, i): shown for (i, j), shown in self.paper.items()}
        self.assertIs(takes_groups(THREE, "mover", PLACES, GROUPS, turned), False)

    def test_other_ways(self):
        self.check(True, p03=(PLACES[0], spot(6, 1), PLACES[3]))
        self.check(True, p05=(PLACES[0],))
        self.check(True, p05=(PLACES[0], PLACES[3], PLACES[5]))
        for way in (
            (), (PLACES[0],), (PLACES[3],), (PLACES[0], spot(9, 3)), (spot(8, 4), PLACES[3]), (PLACES[0], PLACES[2]),
            (PLACES[3], PLACES[0]), (PLACES[0], spot(5, 5), PLACES[3]), (PLACES[0], spot(2, 2), PLACES[3]),
            (PLACES[0], spot(8, 0), PLACES[3]), (PLACES[0], spot(19, 9), PLACES[3]),
        ):
            self.check(False, p03=way)

    def test_other_barriers(self):
        here, there = PLACES[0], PLACES[1]
        ring = find_barrier(THREE, "mover", here, there)
        self.check(True, p01=ring)
        self.check(True, p01=find_barrier(THREE, "mover", there, here))
        self.check(True, p01=self.paper[(3, 7)])
        for wrong in ((), ring[:1], ring[1:], ring[:-1], ring + ring, tuple(p for _, p in ring), (here, there)):
            self.check(bool(wrong) and is_barrier(THREE, "mover", here, there, wrong), p01=wrong)

    def test_barriers_between_other_places(self):
        room = ring_of_boxes(False)
        room.build("more", (((0, 13), (13, 13)), ((13, 0), (13, 13))))
        places = [spot(7, 7), spot(1, 1), spot("27/2", "27/2")]
        paper = groups_paper(room, "mover", places)
        self.assertIs(takes_groups(room, "mover", places, [[0], [1], [2]], paper), True)
        inner = (
            (box(3, 3, 5, 11), spot(4, 4)), (box(3, 9, 11, 11), spot(4, 10)), (box(9, 3, 11, 11), spot(10, 10)),
            (box(8, 3, 11, 5), spot(10, 4)), (box(6, 3, 9, 5), spot("17/2", 4)), (box(3, 3, 7, 5), spot("13/2", 4)),
        )
        self.assertTrue(is_barrier(room, "mover", places[0], places[1], inner))
        self.assertIs(takes_groups(room, "mover", places, [[0], [1], [2]], {**paper, (0, 1): inner}), True)
        self.assertIs(takes_groups(room, "mover", places, [[0], [1], [2]], {**paper, (0, 2): inner}), True)
        self.assertIs(takes_groups(room, "mover", places, [[0], [1], [2]], {**paper, (1, 2): inner}), False)

    def test_a_way_for_a_barrier_and_a_barrier_for_a_way(self):
        self.check(False, p01=(PLACES[0], PLACES[1]))
        self.check(False, p01=self.paper[(0, 3)])
        self.check(False, p03=self.paper[(0, 1)])
        self.check(False, [[0, 1, 3, 4, 5, 7], [2, 6]], p01=(PLACES[0], PLACES[1]))
        self.check(False, [[0], [1, 4, 7], [2, 6], [3, 5]], p03=self.paper[(0, 1)])

    def test_other_places_and_rooms(self):
        self.check(False, places=PLACES[:-1])
        self.check(False, places=PLACES + [spot(1, 1)])
        self.check(False, places=PLACES[1:] + PLACES[:1])
        open_room = THREE.copy()
        open_room.drop("a")
        self.check(False, room=open_room)
        paper = groups_paper(open_room, "mover", PLACES)
        self.assertIs(takes_groups(THREE, "mover", PLACES, groups(open_room, "mover", PLACES), paper), False)

    def test_places_that_are_not_free(self):
        self.assertIs(takes_groups(THREE, "mover", [spot(0, 0)], [[0]], {}), False)
        self.assertIs(takes_groups(THREE, "mover", [spot(5, 5)], [[0]], {}), False)
        self.check(False, places=PLACES[:7] + [spot(5, 5)])
        self.check(False, [[0, 3, 5], [1, 4], [2, 6], [7]], places=PLACES[:7] + [spot(5, 5)])

    def test_any_number_of_places(self):
        places = [spot(k, 8) for k in range(1, 11)]
        paper = {(i, j): (places[i], places[j]) for i, j in combinations(range(10), 2)}
        self.assertIs(takes_groups(AROUND, "mover", places, [list(range(10))], paper), True)
        del paper[(8, 9)]
        self.assertIs(takes_groups(AROUND, "mover", places, [list(range(10))], paper), False)

    def test_any_number_of_regions(self):
        room = crowded(17)
        way = (spot(1, 1), spot(1, 2))
        self.assertIs(takes_groups(room, "mover", list(way), [[0, 1]], {(0, 1): way}), True)
        self.assertIs(takes_groups(room, "mover", list(way), [[0], [1]], {(0, 1): way}), False)

    def test_unknown_bodies(self):
        for name in ("a", "movers", ""):
            for places, found in ((PLACES, GROUPS), ([], []), ([spot(0, 0)], [])):
                with self.assertRaises(UnknownThing):
                    takes_groups(THREE, name, places, found, self.paper)

    def test_several_bodies(self):
        room = SHUT.copy()
        room.open_door("b")
        room.add_body("large", (box(0, 0, 1, 2),))
        for body, expected in (("mover", [[0, 1]]), ("large", [[0], [1]])):
            paper = groups_paper(room, body, [LEFT, RIGHT])
            self.assertEqual(groups(room, body, [LEFT, RIGHT]), expected)
            self.assertIs(takes_groups(room, body, [LEFT, RIGHT], expected, paper), True)
            for other in ("mover", "large"):
                is_right = other == body
                self.assertIs(takes_groups(room, other, [LEFT, RIGHT], expected, paper), is_right)
        self.assertEqual(room.bodies()["mover"], (SQUARE,))


if __name__ == "__main__":
    unittest.main()
