"""Point 27: desks, their lines and their answers."""

import random
import unittest

from cases import LEFT, RIGHT, crowded
from helpers import POINT, SQUARE, box, some_piece, spot
from test_keeper import DOOR, WALL, is_right
from test_notation import deep
from test_rooms import LETTERS, NO_SHAPES, told

from roomyway import desk
from roomyway.desk import Desk
from roomyway.errors import InvalidArgument, RoomError
from roomyway.keeper import Keeper
from roomyway.notation import read, read_room, room_text, write

BOX = (SQUARE,)
CHANGES = {
    "wall": "build", "door": "hang", "body": "add_body", "drop": "drop", "dropbody": "drop_body", "open": "open_door",
    "shut": "shut_door", "ask": "ask", "forget": "forget", "undo": "undo",
}
RIGHT_LINES = [
    ("wall", "b", BOX), ("door", "c", BOX), ("body", "d", BOX), ("drop", "wall"), ("dropbody", "box"), ("open", "door"),
    ("shut", "door"), ("ask", "e", "box", LEFT, RIGHT), ("forget", "trip"), ("undo",), ("answer", "trip"),
    ("changed",), ("room",),
]


def is_writable(thing):
    if type(thing) is tuple:
        return all(is_writable(part) for part in thing)
    return type(thing) in (int, str)


class Case(unittest.TestCase):

    def hall(self):
        """A desk with a wall, a shut door in it, a body and a request."""
        one = Desk(20, 10)
        for line in (("wall", "wall", WALL), ("door", "door", DOOR), ("body", "box", BOX),
                     ("ask", "trip", "box", LEFT, RIGHT)):
            self.assertEqual(one.answer(write(line)), "ok")
        return one

    def state(self, one):
        """All that a desk tells."""
        names = [read(line)[1] for line in one.lines() if read(line)[0] == "ask"]
        found = [one.answer(write(("answer", name))) for name in names]
        return one.answer("(4:room)"), one.answer("(7:changed)"), found, one.lines()

    def told(self, one, expected, *call):
        """Check the answer to a call, and that nothing is changed unless it is ok."""
        self.line(one, expected, write(call))

    def line(self, one, expected, line):
        before = self.state(one)
        with self.subTest(line=line):
            self.assertEqual(one.answer(line), expected)
        if expected == "ok":
            self.assertEqual(one.lines(), before[3] + [line])
        else:
            self.assertEqual(self.state(one), before)


class Lines(Case):

    def test_sizes(self):
        for size in ((2, 2), (1000, 1000), (30, 20)):
            self.assertEqual(Desk(*size).answer("(4:room)"), f"room {size[0]} {size[1]}\n")
        for size in ((1, 5), (5, 1), (1001, 5), (5, 1001), (0, 0)):
            with self.assertRaises(InvalidArgument):
                Desk(*size)

    def test_a_new_desk(self):
        one = Desk(20, 10)
        self.assertEqual(one.lines(), [])
        self.assertEqual(one.answer("(7:changed)"), "()")
        self.assertEqual(one.answer("(4:undo)"), "!NothingToUndo")

    def test_each_change(self):
        one = Desk(20, 10)
        for line, text in (
            ("(4:wall,1:b,(((8,0),(9,0),(9,4),(8,4))))", "room 20 10\nwall b (((8,0),(9,0),(9,4),(8,4)))\n"),
            ("(4:drop,1:b)", "room 20 10\n"),
            ("(4:door,1:c,(((8,0),(9,0))))", "room 20 10\nshut c (((8,0),(9,0)))\n"),
            ("(4:open,1:c)", "room 20 10\nopen c (((8,0),(9,0)))\n"),
            ("(4:open,1:c)", "room 20 10\nopen c (((8,0),(9,0)))\n"),
            ("(4:shut,1:c)", "room 20 10\nshut c (((8,0),(9,0)))\n"),
            ("(4:body,3:box,(((0,0))))", "room 20 10\nshut c (((8,0),(9,0)))\nbody box (((0,0)))\n"),
            ("(3:ask,1:q,3:box,((2,1),(5,1)),((2,1),(5,1)))", "room 20 10\nshut c (((8,0),(9,0)))\nbody box (((0,0)))\n"),
            ("(8:dropbody,3:box)", "room 20 10\nshut c (((8,0),(9,0)))\n"),
            ("(6:forget,1:q)", "room 20 10\nshut c (((8,0),(9,0)))\n"),
            ("(4:undo)", "room 20 10\nshut c (((8,0),(9,0)))\n"),
            ("(4:undo)", "room 20 10\nshut c (((8,0),(9,0)))\nbody box (((0,0)))\n"),
        ):
            self.line(one, "ok", line)
            self.assertEqual(one.answer("(4:room)"), text)
        self.assertEqual(one.answer("(6:answer,1:q)"), "(3:way,(((2,1),(5,1))))")

    def test_answers(self):
        one = self.hall()
        room = read_room(one.answer("(4:room)"))
        barrier = read(one.answer("(6:answer,4:trip)"))
        self.assertEqual(barrier[0], "barrier")
        self.assertTrue(is_right(room, ("box", LEFT, RIGHT), barrier))
        one.answer("(4:open,4:door)")
        room.open_door("door")
        way = read(one.answer("(6:answer,4:trip)"))
        self.assertEqual(way[0], "way")
        self.assertTrue(is_right(room, ("box", LEFT, RIGHT), way))
        one.answer("(8:dropbody,3:box)")
        self.assertEqual(one.answer("(6:answer,4:trip)"), "(5:stuck)")

    def test_the_names_of_those_changed(self):
        one = self.hall()
        self.told(one, "()", "changed")
        for name in ("z", "a"):
            self.told(one, "ok", "ask", name, "box", LEFT, RIGHT)
        self.told(one, "ok", "ask", "m", "box", LEFT, LEFT)
        self.told(one, "ok", "open", "door")
        self.told(one, "(1:a,4:trip,1:z)", "changed")
        self.told(one, "ok", "wall", "far", (POINT,))
        self.told(one, "()", "changed")

    def test_the_text_of_the_room(self):
        one, other = self.hall(), Keeper(20, 10)
        other.build("wall", WALL)
        other.hang("door", DOOR)
        other.add_body("box", BOX)
        self.assertEqual(one.answer("(4:room)"), room_text(other.room()))

    def test_errors(self):
        one = self.hall()
        for call, expected in (
            (("wall", "B", BOX), "InvalidArgument"), (("wall", "", BOX), "InvalidArgument"),
            (("door", "a b", BOX), "InvalidArgument"), (("body", "b" * 13, BOX), "InvalidArgument"),
            (("wall", "door", BOX), "DuplicateThing"), (("door", "wall", BOX), "DuplicateThing"),
            (("body", "box", BOX), "DuplicateThing"), (("drop", "box"), "UnknownThing"), (("drop", "A"), "UnknownThing"),
            (("drop", ""), "UnknownThing"), (("dropbody", "wall"), "UnknownThing"), (("open", "wall"), "UnknownThing"),
            (("shut", "b"), "UnknownThing"), (("ask", "A", "box", LEFT, RIGHT), "InvalidArgument"),
            (("ask", "trip", "box", LEFT, RIGHT), "DuplicateThing"), (("ask", "b", "Box", LEFT, RIGHT), "UnknownThing"),
            (("ask", "", "", LEFT, RIGHT), "InvalidArgument"), (("forget", "box"), "UnknownThing"),
            (("answer", "box"), "UnknownThing"), (("answer", ""), "UnknownThing"), (("answer", "9" * 99), "UnknownThing"),
        ):
            self.told(one, "!" + expected, *call)

    def test_errors_of_too_many(self):
        one = self.hall()
        for name in LETTERS[:5]:
            self.told(one, "ok", "ask", name, "box", LEFT, RIGHT)
        self.told(one, "!TooLarge", "ask", "z", "box", LEFT, RIGHT)
        for name in LETTERS[:10]:
            self.told(one, "ok", "wall", name, (POINT,))
        self.told(one, "!TooLarge", "wall", "z", BOX)
        self.told(one, "!TooLarge", "door", "z", BOX)
        for name in LETTERS[:3]:
            self.told(one, "ok", "body", name, BOX)
        self.told(one, "!TooLarge", "body", "z", BOX)

    def test_too_many_regions(self):
        one, room = Desk(54, 10), crowded(16)
        for name, shape in room.walls().items():
            self.told(one, "ok", "wall", name, shape)
        self.told(one, "ok", "body", "mover", room.bodies()["mover"])
        self.told(one, "ok", "ask", "a", "mover", spot(1, 1), spot("103/2", 1))
        self.told(one, "!TooLarge", "wall", "z", BOX)

    def test_nothing_to_undo(self):
        one = self.hall()
        for _ in range(4):
            self.line(one, "ok", "(4:undo)")
        for _ in range(2):
            self.line(one, "!NothingToUndo", "(4:undo)")
        self.assertEqual(one.answer("(4:room)"), "room 20 10\n")

    def test_shapes_may_be_anything(self):
        one = self.hall()
        more = [1, "", "shape", deep(38), (BOX,), ((),), (1,), (((0, 0), (0, 0)),), (((2001, 0),),), (("a",),), ((("a", 0),),)]
        many = 0
        for shape in [shape for shape in NO_SHAPES if is_writable(shape)] + more:
            for word in ("wall", "door", "body"):
                self.told(one, "!InvalidArgument", word, "b", shape)
                many += 1
        self.assertGreater(many, 60)
        self.told(one, "!InvalidArgument", "body", "b", (((201, 0),),))

    def test_each_is_defined_in_its_file(self):
        self.assertEqual(Desk.__module__, desk.__name__)
        for name in ("__init__", "answer", "lines"):
            self.assertIn(name, vars(Desk))


class Unreadable(Case):

    def test_no_written_forms(self):
        one = self.hall()
        for line in (
            "", " ", "(", ")", "wall", "room", "undo", "(room)", "(5:room)", "(3:room)", "(4:room", "4:room)", "((4:room)",
            "(4:room) ", " (4:room)", "(4:room)\n", "(4: room)", "(04:room)", "(4:room,)", "(4:drop,4:wall", "?", "ok",
            "(4:drop, 4:wall)", "(4:open,04:door)", "(4:wall,1:b,(((00,0))))", "(4:wall,1:b,(((-0,0))))",
            "(100:" + "a" * 100 + ")", "room 20 10\n", "\u0664:room",
        ):
            self.line(one, "?", line)

    def test_no_tuples(self):
        one = self.hall()
        for line in ("0", "5", "-7", "4:room", "4:undo", "0:", "8:(4:room)"):
            self.line(one, "?", line)

    def test_unknown_first_words(self):
        one = self.hall()
        for call in (
            (), ("",), ("rooms",), ("Room",), (" room",), ("room ",), ("build", "b", BOX), ("hang", "b", BOX),
            ("lines",), ("requests",), ("forgets", "trip"), ("UNDO",), ("text",), ("any",), ("point",),
        ):
            self.told(one, "?", *call)
        for first in (0, 1, -5, (), ("room",), ("undo",), (((("undo",),),),), deep(30)):
            self.told(one, "?", first)
            self.told(one, "?", first, "wall")
        for call in RIGHT_LINES:
            self.told(one, "?", *((call,) + call))
            self.told(one, "?", call)
            self.told(one, "?", 1, *call)

    def test_too_few_or_too_many_parts(self):
        one = self.hall()
        for call in RIGHT_LINES:
            for many in range(1, len(call)):
                self.told(one, "?", *call[:many])
            for more in ("", "wall", 0, (), LEFT, call[-1]):
                self.told(one, "?", *call, more)
            self.told(one, "?", *call, *call)

    def test_names_that_are_no_texts(self):
        one = self.hall()
        for call in RIGHT_LINES:
            names = {"ask": 2, "undo": 0, "changed": 0, "room": 0}.get(call[0], 1)
            for k in range(1, 1 + names):
                for thing in (0, 5, -1, (), ("wall",), ("box", "trip"), LEFT):
                    self.told(one, "?", *call[:k], thing, *call[k + 1:])

    def test_starts_and_goals_that_are_no_points(self):
        one = self.hall()
        for thing in (
            0, 5, "", "point", (), (1, 2), (5,), ((1, 1),), ((1, 1), (1, 1), (1, 1)), ((1, 1), (2,)), ((1, 1), 2),
            ((1, 1), (2, 1, 1)), ((1, 1), ()), ((2, 2), (5, 1)), ((4, 2), (5, 1)), ((5, 1), (0, 2)), ((5, 1), (0, -1)),
            ((5, 1), (5, 0)), ((0, 0), (5, 1)), ((5, 1), (5, -1)), ((-5, -1), (1, 1)), ((5, 1), (-6, 4)),
            ((1, 0), (1, 1)), ((1, "1"), (1, 1)), (("1", 1), (1, 1)), ((1, 1), "11"), ((1, (1,)), (1, 1)), ((3, 10 ** 30 * 3), (1, 1)),
        ):
            self.told(one, "?", "ask", "b", "box", thing, RIGHT)
            self.told(one, "?", "ask", "b", "box", LEFT, thing)
            # Even if the call would raise an error.
            self.told(one, "?", "ask", "B", "none", thing, thing)

    def test_points(self):
        one = self.hall()
        for place in (spot(0, 0), spot("-1/2", "7/3"), spot(10 ** 99, "1/3"), ((-7, 10 ** 50 + 1), (1, 10 ** 199))):
            self.told(one, "ok", "ask", "b", "box", place, LEFT)
            self.told(one, "ok", "ask", "c", "box", LEFT, place)
            self.told(one, "ok", "undo")
            self.told(one, "ok", "undo")


class Kept(Case):

    def test_the_list_belongs_to_the_caller(self):
        one = self.hall()
        before = one.lines()
        self.assertIs(type(before), list)
        one.lines().append("more")
        one.lines().clear()
        self.assertEqual(one.lines(), before)
        one.answer("(4:undo)")
        self.assertEqual(len(before), 4)
        self.assertEqual(one.lines(), before + ["(4:undo)"])

    def test_only_those_answered_with_ok(self):
        one = self.hall()
        before = one.lines()
        for line in ("(4:room)", "(7:changed)", "(6:answer,4:trip)", "?", "(4:drop,1:b)", "(4:wall,1:B,())", "ok", ""):
            self.assertNotEqual(one.answer(line), "ok")
            self.assertEqual(one.lines(), before)
        # A door that is so already is no change of the room, but the line is answered with ok.
        self.line(one, "ok", "(4:shut,4:door)")
        self.assertEqual(one.lines()[-1], "(4:shut,4:door)")

    def test_desks_are_independent(self):
        one, other = self.hall(), self.hall()
        before = self.state(other)
        one.answer("(4:open,4:door)")
        one.answer("(6:forget,4:trip)")
        self.assertEqual(self.state(other), before)


class ByChance(Case):

    def some_call(self, chance):
        name = chance.choice("abcde")
        word = chance.choice(list(CHANGES) + ["ask", "ask", "drop", "open", "body"])
        x = chance.randint(1, 8)
        piece = chance.choice((((x, 3), (x, 7)), ((x, 0), (x, 12)), ((0, x), (12, x)), box(x, 0, x + 1, 5)))
        if word in ("wall", "door"):
            return word, name, (piece,)
        if word == "body":
            return word, chance.choice("ab"), (chance.choice((POINT, SQUARE, some_piece(chance, -1, 1))),)
        if word == "ask":
            ends = [spot(chance.randint(1, 8), chance.randint(1, 8)) for _ in range(2)]
            return (word, name, chance.choice("ab"), *ends)
        return (word,) if word == "undo" else (word, chance.choice("ab") if word == "dropbody" else name)

    def test_as_a_keeper_answers(self):
        """A desk answers as a keeper does, all answers stay right, and a new desk makes the same of its lines."""
        chance = random.Random(27)
        kinds = {}
        for _ in range(25):
            one, other = Desk(10, 9), Keeper(10, 9)
            for _ in range(70):
                call = self.some_call(chance)
                try:
                    getattr(other, CHANGES[call[0]])(*call[1:])
                    expected = "ok"
                except RoomError as error:
                    expected = "!" + type(error).__name__
                self.assertEqual(one.answer(write(call)), expected)
                self.assertEqual(one.answer("(4:room)"), room_text(other.room()))
                self.assertEqual(one.answer("(7:changed)"), write(tuple(other.changed())))
                for name, request in other.requests().items():
                    answer = one.answer(write(("answer", name)))
                    self.assertEqual(answer, write(other.answer(name)))
                    self.assertTrue(is_right(other.room(), request, read(answer)))
                    kinds[read(answer)[0]] = kinds.get(read(answer)[0], 0) + 1
            self.check_lines(one, other)
        self.assertGreater(min(kinds[kind] for kind in ("way", "barrier", "stuck")), 20)

    def check_lines(self, one, other):
        again = Desk(10, 9)
        for line in one.lines():
            self.assertEqual(again.answer(line), "ok")
        self.assertEqual(again.lines(), one.lines())
        self.assertEqual(told(read_room(again.answer("(4:room)"))), told(other.room()))
        self.assertEqual(again.answer("(4:room)"), one.answer("(4:room)"))
        for name in "abcde":
            first, second = one.answer(write(("answer", name))), again.answer(write(("answer", name)))
            self.assertEqual(first == "!UnknownThing", second == "!UnknownThing")
            self.assertEqual(first != "!UnknownThing", name in other.requests())
            if name in other.requests():
                self.assertEqual(read(first)[0], read(second)[0])

    def test_any_text(self):
        chance = random.Random(270)
        told_of = {}
        for _ in range(40):
            one = self.hall()
            for _ in range(40):
                line = list(write(chance.choice(RIGHT_LINES)))
                for _ in range(chance.choice((0, 1, 1, 2))):
                    line[chance.randrange(len(line))] = chance.choice(("", "1", "0", "(", ")", ",", ":", "a", "-", "\u00e9"))
                answer = one.answer("".join(line))
                self.assertIs(type(answer), str)
                told_of[answer[:1]] = told_of.get(answer[:1], 0) + 1
        self.assertEqual(set(told_of), {"?", "!", "o", "(", "r"})


if __name__ == "__main__":
    unittest.main()
