"""Desks: keepers that are asked by lines of text and answer by texts."""

from roomyway.errors import BadText, DuplicateThing, InvalidArgument, NothingToUndo, TooLarge, UnknownThing
from roomyway.keeper import Keeper
from roomyway.notation import read, room_text, write
from roomyway.points import is_point

# What the parts behind the first word of a line must be: texts, points, or anything.
KINDS = {
    "wall": ("text", "any"),
    "door": ("text", "any"),
    "body": ("text", "any"),
    "drop": ("text",),
    "dropbody": ("text",),
    "open": ("text",),
    "shut": ("text",),
    "ask": ("text", "text", "point", "point"),
    "forget": ("text",),
    "undo": (),
    "answer": ("text",),
    "changed": (),
    "room": (),
}
OK = "ok"
UNREADABLE = "?"


class Desk:
    """A keeper that takes lines."""

    def __init__(self, width, height):
        self._keeper = Keeper(width, height)
        self._done = []

    def answer(self, line):
        """Carry out what a line says, and return the answer to it."""
        try:
            thing = read(line)
        except BadText:
            return UNREADABLE
        if not _is_call(thing):
            return UNREADABLE
        told = self._outcome(thing)
        # No question is answered with this: written forms are tuples, and texts of rooms begin otherwise.
        if told == OK:
            self._done.append(line)
        return told

    def lines(self):
        """Return the list of the lines that were answered with ok, in order."""
        return list(self._done)

    def _outcome(self, call):
        """Return the answer to a call, that of an error included."""
        try:
            return self._carried_out(call[0], call[1:])
        except InvalidArgument:
            return "!InvalidArgument"
        except UnknownThing:
            return "!UnknownThing"
        except DuplicateThing:
            return "!DuplicateThing"
        except TooLarge:
            return "!TooLarge"
        except NothingToUndo:
            return "!NothingToUndo"

    def _carried_out(self, word, parts):
        """Carry out a call, and return the answer to it."""
        keeper = self._keeper
        if word == "answer":
            return write(keeper.answer(parts[0]))
        if word == "changed":
            return write(tuple(keeper.changed()))
        if word == "room":
            return room_text(keeper.room())
        changes = {
            "wall": keeper.build, "door": keeper.hang, "body": keeper.add_body, "drop": keeper.drop,
            "dropbody": keeper.drop_body, "open": keeper.open_door, "shut": keeper.shut_door, "ask": keeper.ask,
            "forget": keeper.forget, "undo": keeper.undo,
        }
        change = changes[word]
        change(*parts)
        return OK


def _is_call(thing):
    """Return True if a thing is one of the tuples that a desk carries out, otherwise False."""
    if not isinstance(thing, tuple) or len(thing) == 0 or not isinstance(thing[0], str) or thing[0] not in KINDS:
        return False
    kinds = KINDS[thing[0]]
    return len(thing) == len(kinds) + 1 and all([_is_of(part, kind) for part, kind in zip(thing[1:], kinds)])


def _is_of(part, kind):
    """Return True if a part of a line is what the kind says, otherwise False."""
    if kind == "text":
        return isinstance(part, str)
    return kind == "any" or is_point(part)
