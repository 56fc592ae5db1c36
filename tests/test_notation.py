"""Points 25 and 26: written forms and texts of rooms."""

import random
import unittest

from cases import BLOCKED, CASES, LEFT, RIGHT
from helpers import POINT, SQUARE, box, some_room, spot
from test_rooms import LETTERS, told

from roomyway import notation
from roomyway.barriers import find_barrier
from roomyway.errors import BadText
from roomyway.notation import read, read_room, room_text, write
from roomyway.rooms import Room
from roomyway.ways import find_way

FORMS = {
    "0": 0, "7": 7, "-1": -1, "10": 10, "-200": -200, "1234567890": 1234567890, "()": (), "(1)": (1,), "(1,2)": (1, 2),
    "(())": ((),), "((),())": ((), ()), "(1,(2,(3)),-4)": (1, (2, (3,)), -4), "0:": "", "1:a": "a", "2:ab": "ab",
    "12:abcdefghijkl": "abcdefghijkl", "(0:)": ("",), "(0:,0:)": ("", ""), "3:(1)": "(1)", "2:1:": "1:", "1:,": ",",
    "(1:,,1:))": (",", ")"), "5:-12:(": "-12:(", "2:12": "12", "1:-": "-", "(2:12,12)": ("12", 12), "1: ": " ",
    "1:\n": "\n", "3:\u00e4\u0663\x00": "\u00e4\u0663\x00", "(4:way:,(((1,2),(-3,1))))": ("way:", (((1, 2), (-3, 1)),)),
    "(3:way,(((2,1),(5,1))))": ("way", (((2, 1), (5, 1)),)), "(5:stuck)": ("stuck",),
    "10:0123456789": "0123456789", "11:0123456789-": "0123456789-",
}


def deep(many, inner=()):
    """Tuples so many deep."""
    for _ in range(many - (inner == ())):
        inner = (inner,)
    return inner


class Case(unittest.TestCase):

    def refused(self, text, reader=read):
        with self.subTest(text=text):
            with self.assertRaises(BadText) as caught:
                reader(text)
            self.assertIs(type(caught.exception), BadText)

    def same(self, thing, other):
        """Check that two things are equal and of the same kinds."""
        self.assertIs(type(thing), type(other))
        if type(thing) is tuple:
            self.assertEqual(len(thing), len(other))
            for part, other_part in zip(thing, other):
                self.same(part, other_part)
        else:
            self.assertEqual(thing, other)


class Forms(Case):

    def test_forms(self):
        for text, thing in FORMS.items():
            with self.subTest(text=text):
                self.assertEqual(write(thing), text)
                self.assertIs(type(write(thing)), str)
                self.same(read(text), thing)

    def test_texts_of_each_length(self):
        for many in range(100):
            for letters in ("a", "(", ")", ":", ",", "9", "-", "\u0660"):
                text = letters * many
                self.assertEqual(write(text), f"{many}:{text}")
                self.same(read(f"{many}:{text}"), text)
                self.same(read(f"(1,{many}:{text},-1)"), (1, text, -1))

    def test_integers_of_each_length(self):
        chance = random.Random(25)
        for many in range(1, 201):
            for n in (10 ** (many - 1), 10 ** many - 1, chance.randint(10 ** (many - 1), 10 ** many - 1)):
                for value in (n, -n):
                    self.assertEqual(write(value), str(value))
                    self.same(read(str(value)), value)

    def test_integers_of_any_size(self):
        for many in (201, 640, 641, 1000, 4299, 4300, 4301, 5000, 20000):
            self.assertEqual(write(10 ** many), "1" + "0" * many)
            self.assertEqual(write(-(10 ** many)), "-1" + "0" * many)
            self.assertEqual(write(10 ** many - 1), "9" * many)
            self.assertEqual(write((10 ** many + 12, 1)), "(1" + "0" * (many - 2) + "12,1)")

    def test_shapes_ways_and_rings(self):
        for shape in ((SQUARE,), (SQUARE, POINT), (box(-1000, -1000, 2000, 2000),)):
            self.same(read(write(shape)), shape)
        self.assertEqual(write(spot("1/2", -3)), "((1,2),(-3,1))")
        self.assertEqual(write((SQUARE,)), "(((0,0),(1,0),(1,1),(0,1)))")
        for room, start, goal, is_there in CASES.values():
            found = (find_way if is_there else find_barrier)(room, "mover", start, goal)
            self.same(read(write(("answer", found))), ("answer", found))

    def test_by_chance(self):
        chance = random.Random(250)
        for _ in range(300):
            thing = self.some_thing(chance, 5)
            self.same(read(write(thing)), thing)

    def some_thing(self, chance, most):
        kind = chance.choice(("tuple", "tuple", "text", "integer")) if most else "integer"
        if kind == "tuple":
            return tuple(self.some_thing(chance, most - 1) for _ in range(chance.randint(0, 4)))
        if kind == "text":
            return "".join(chance.choice("(),:-019az \n\u00e9") for _ in range(chance.randint(0, 15)))
        return chance.choice((0, 1, -1, chance.randint(-10 ** 20, 10 ** 20)))

    def test_nothing_is_kept(self):
        thing = (1, ("a", ()))
        self.assertEqual(write(thing), write(thing))
        self.assertEqual(thing, (1, ("a", ())))
        self.assertEqual(read("(1,2)"), read("(1,2)"))

    def test_each_is_defined_in_its_file(self):
        for name in ("write", "read", "room_text", "read_room"):
            self.assertEqual(getattr(notation, name).__module__, "roomyway.notation")


class Limits(Case):

    def test_depth(self):
        for inner, end in (((), "()"), ((5,), "(5)"), (("a", 2), "(1:a,2)")):
            for many in (1, 2, 39, 40):
                thing = deep(many - (inner != ()), inner)
                text = "(" * (many - 1) + end + ")" * (many - 1)
                self.assertEqual(write(thing), text)
                self.same(read(text), thing)
            for many in (41, 42, 100, 5000):
                self.refused("(" * (many - 1) + end + ")" * (many - 1))
        self.refused("(1," + "(" * 40 + ")" * 41)
        self.same(read("(1," + "(" * 39 + ")" * 40), (1, deep(39)))
        # Tuples beside each other are not deeper.
        self.same(read("(" + ",".join(["()"] * 500) + ")"), ((),) * 500)
        self.refused("(" * 100000)

    def test_writing_goes_beyond(self):
        self.assertEqual(write(deep(60)), "(" * 60 + ")" * 60)
        self.assertEqual(write("a" * 120), "120:" + "a" * 120)

    def test_integers(self):
        for many in (201, 202, 1000, 4300, 4301, 100000):
            self.refused("9" * many)
            self.refused("-" + "9" * many)
            self.refused("(" + "1" * many + ")")
        self.same(read("-" + "9" * 200), -(10 ** 200 - 1))

    def test_lengths(self):
        self.same(read("99:" + "a" * 99), "a" * 99)
        self.refused("100:" + "a" * 100)
        self.refused("999:" + "a" * 999)
        self.refused("(100:" + "a" * 100 + ")")
        self.refused("1" * 300 + ":a")


class Refused(Case):

    def test_the_empty_text(self):
        self.refused("")

    def test_integers(self):
        for text in (
            "00", "01", "-01", "-0", "-00", "-", "--1", "+1", "+0", " 1", "1 ", "1\n", "\n1", "- 1", "1-", "1 2", "1,2",
            "0x1", "1e3", "1.0", "1_000", "\u0661", "1\u0661", "\u00b2", "-\u0661", "\uff11", "a", "1a", "a1", "0-1",
            "\u22121",
        ):
            self.refused(text)
            self.refused(f"({text})" if text != "1,2" else "(1,,2)")

    def test_texts(self):
        for text in (
            "1:", "2:a", "0:a", "1:ab", "01:a", "00:", "-1:a", "-0:", "+1:a", ":", ":a", " 1:a", "1 :a", "1:a ", "a:a",
            "1;a", "\u0661:a", "99:" + "a" * 98, "(2:a)", "(1:)", "3:()", "10:123456789", "001:a",
        ):
            self.refused(text)
        self.refused("(1:a,1:)")

    def test_tuples(self):
        for text in (
            "(", ")", ")(", "(()", "())", "()()", "(,)", "(1,)", "(,1)", "(1,,2)", "(1 ,2)", "(1, 2)", "( )", "( 1)",
            "(1)2", "1(2)", "(1(2))", "(1)(2)", "(1;2)", "[1]", "((1)", "(1", "(1,", "()1", "() ", " ()", "()\n", "(1:a",
            "(1:a1)", "(11:a)", "((),)", "(()())", "1)", "(1))",
        ):
            self.refused(text)

    def test_one_sign_changed(self):
        """Whatever is read is written just as it was."""
        chance = random.Random(251)
        told = {True: 0, False: 0}
        for text in FORMS:
            for _ in range(40):
                k = chance.randint(0, len(text))
                sign = chance.choice("(),:-+019a ")
                changed = chance.choice((text[:k] + sign + text[k:], text[:k] + text[k + 1:], text[:k] + sign + text[k + 1:]))
                try:
                    thing = read(changed)
                except BadText:
                    told[False] += 1
                    continue
                told[True] += 1
                self.assertEqual(write(thing), changed)
        self.assertGreater(min(told.values()), 50)


def full():
    """A room with walls, doors and bodies."""
    room = Room(20, 10)
    room.build("north", (box(8, 0, 9, 4), POINT))
    room.build("a", (((-1000, 2000),),))
    room.hang("door", (SQUARE,))
    room.hang("c", (((2, 3), (4, 5)),))
    room.open_door("c")
    room.add_body("z", (SQUARE,))
    room.add_body("b", (POINT, POINT, ((-200, 200),)))
    return room


TEXT = """room 20 10
wall a (((-1000,2000)))
wall north (((8,0),(9,0),(9,4),(8,4)),((0,0)))
open c (((2,3),(4,5)))
shut door (((0,0),(1,0),(1,1),(0,1)))
body b (((0,0)),((0,0)),((-200,200)))
body z (((0,0),(1,0),(1,1),(0,1)))
"""


class Rooms(Case):

    def check(self, text, expected):
        found = read_room(text)
        self.assertIs(type(found), Room)
        self.assertEqual(told(found), told(expected))
        self.assertEqual(room_text(found), text)

    def test_the_text(self):
        before = told(full())
        room = full()
        self.assertEqual(room_text(room), TEXT)
        self.assertEqual(told(room), before)
        self.check(TEXT, room)

    def test_empty_rooms(self):
        for size in ((2, 2), (2, 1000), (1000, 1000), (30, 20)):
            text = f"room {size[0]} {size[1]}\n"
            self.assertEqual(room_text(Room(*size)), text)
            self.check(text, Room(*size))

    def test_the_most_things(self):
        room = Room(1000, 2)
        for k, name in enumerate(LETTERS[:12]):
            (room.build if k % 3 else room.hang)(name * (k + 1), (SQUARE,) * 3)
        room.open_door("a")
        for name in LETTERS[:4]:
            room.add_body(name, (SQUARE,))
        text = room_text(room)
        self.assertEqual(len(text.split("\n")), 18)
        self.check(text, room)
        self.refused(text.replace("body a", "wall z (((0,0)))\nbody a"), read_room)
        more = [line for line in text.split("\n") if line.startswith("wall")]
        self.refused(text.replace(more[-1], more[-1] + "\nwall z (((0,0)))"), read_room)
        self.refused(text + "body z (((0,0)))\n", read_room)

    def test_rooms_of_the_other_tests(self):
        for room, *_ in CASES.values():
            self.check(room_text(room), room)

    def test_rooms_by_chance(self):
        chance = random.Random(26)
        for _ in range(100):
            room = some_room(chance)
            self.check(room_text(room), room)

    def test_the_room_is_independent(self):
        room = read_room(TEXT)
        room.drop("north")
        room.shut_door("c")
        self.check(TEXT, full())

    def test_what_is_read_works(self):
        room = read_room(room_text(BLOCKED))
        self.assertIsNone(find_way(room, "mover", LEFT, RIGHT))
        room.drop("a")
        self.assertIsNotNone(find_way(room, "mover", LEFT, RIGHT))

    def refuse(self, old, new):
        self.assertIn(old, TEXT)
        self.refused(TEXT.replace(old, new), read_room)

    def test_the_first_line(self):
        for line in (
            "", "room", "room 20", "room 20 10 5", "room 020 10", "room 20 +10", "room -20 10", "Room 20 10", " room 20 10",
            "room  20 10", "room 20  10", "room 20 10 ", "room\t20 10", "room 1 10", "room 20 1", "room 1001 10",
            "room 20 1001", "room 2:20 10", "room () 10", "room 20 1:5", "room 20.0 10", "room 0 0", "rooms 20 10",
            "wall 20 10", "room a b",
        ):
            self.refuse("room 20 10", line)
            self.refused(line, read_room)
            self.refused(line + "\n", read_room)
        self.refuse("room 20 10\n", "")
        self.refuse("room 20 10\n", "room 20 10\nroom 20 10\n")
        self.refused("\n".join(TEXT.split("\n")[1:-1] + ["room 20 10", ""]), read_room)

    def test_the_last_line(self):
        self.refused(TEXT[:-1], read_room)
        self.refused("room 20 10", read_room)
        self.refused(TEXT + "\n", read_room)
        self.refused(TEXT + " ", read_room)
        self.refused("\n" + TEXT, read_room)
        self.refused("", read_room)
        self.refused("\n", read_room)

    def test_ends_of_lines(self):
        self.refused(TEXT.replace("\n", "\r\n"), read_room)
        self.refused(TEXT.replace("\n", "\n\n"), read_room)
        self.refused(TEXT.replace("\n", ""), read_room)
        self.refused(TEXT.replace("\n", " \n"), read_room)
        self.refused(TEXT.replace("\n", "\x0b"), read_room)

    def test_lines_moved_doubled_or_left_out(self):
        lines = TEXT.split("\n")[:-1]
        for k in range(len(lines)):
            self.refused("\n".join(lines[:k] + lines[k:k + 1] + lines[k:]) + "\n", read_room)
            for j in range(k + 1, len(lines)):
                moved = list(lines)
                moved[k], moved[j] = moved[j], moved[k]
                self.refused("\n".join(moved) + "\n", read_room)
            if k > 0:
                room = read_room("\n".join(lines[:k] + lines[k + 1:]) + "\n")
                self.assertNotEqual(told(room), told(full()))

    def test_unknown_lines(self):
        for line in (
            "door e (((0,0)))", "wal a (((0,0)))", "Wall e (((0,0)))", "hang e (((0,0)))", "e (((0,0)))", "wall e",
            "wall (((0,0)))", "wall e f (((0,0)))", "walls e (((0,0)))", "open", "# comment", "wall e (((0,0))) wall",
        ):
            for end in ("wall a", "open c", "body b"):
                self.refuse(end, line + "\n" + end)
            self.refused(TEXT + line + "\n", read_room)

    def test_blanks(self):
        for k in range(len(TEXT)):
            self.refused(TEXT[:k] + " " + TEXT[k:], read_room)
        for k, sign in enumerate(TEXT):
            if sign in " \n":
                self.refused(TEXT[:k] + TEXT[k + 1:], read_room)
                self.refused(TEXT[:k] + "\t" + TEXT[k + 1:], read_room)

    def test_names(self):
        for name in ("", "A", "a1", "a" * 13, "1:a", "()", "\u00e4", "a-b"):
            self.refuse("wall a ", f"wall {name} ")
            self.refuse("open c ", f"open {name} ")
            self.refuse("body b ", f"body {name} ")
        self.refuse("wall a ", "wall north ")
        self.refuse("wall north ", "wall c ")
        self.refuse("shut door ", "shut a ")
        self.refuse("shut door ", "shut c ")
        self.refuse("body z ", "body b ")

    def test_names_in_another_order(self):
        self.refuse("wall a ", "wall o ")
        self.refuse("open c ", "open e ")
        self.refuse("body b ", "body zz ")
        self.check(TEXT.replace("wall a ", "wall norda "), read_room(TEXT.replace("wall a ", "wall norda ")))

    def test_shapes(self):
        good = "(((2,3),(4,5)))"
        for shape in (
            "", "()", "((()))", "(((2,3),(4,5))", "((2,3),(4,5))", "(((4,5),(2,3)))", "(((2,3),(2,3)))",
            "(((2,3),(4,5),(6,7)))", "(((2,3),(4,2001)))", "(((-1001,3),(4,5)))", "(((2,3),(4,5,6)))", "(((2,3),(4)))",
            "(((2,3),(4,1:5)))", "1", "1:a", "(((2,3),(4,5)),)", "(((02,3),(4,5)))", "(((2,3),(4,5))).", "((((2,3),(4,5))))",
            "(((2,-0),(4,5)))", "(((2,3)),((2,3)),((2,3)),((2,3)))", "x", "(((2,3), (4,5)))",
            "(((0,4),(1,0),(4,0),(5,1),(6,3),(6,4),(5,6),(2,6),(1,6)))",
        ):
            self.refuse(good, shape)
        self.refuse("(((0,0)),((0,0)),((-200,200)))", "(((0,0)),((0,0)),((-201,200)))")
        self.refuse("(((0,0)),((0,0)),((-200,200)))", "(((0,0)),((0,0)),((-200,201)))")

    def test_one_sign_changed(self):
        """Whatever is read is the text of the room that is returned."""
        chance = random.Random(260)
        told_of = {True: 0, False: 0}
        for _ in range(3000):
            k = chance.randrange(len(TEXT))
            changed = TEXT[:k] + chance.choice(("", chance.choice(TEXT))) + TEXT[k + 1:]
            try:
                room = read_room(changed)
            except BadText:
                told_of[False] += 1
                continue
            told_of[True] += 1
            self.assertEqual(room_text(room), changed)
        self.assertGreater(min(told_of.values()), 100)


if __name__ == "__main__":
    unittest.main()
