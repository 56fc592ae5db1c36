"""Written forms of integers, texts and tuples, and texts of rooms."""

from roomyway.errors import BadText, RoomError
from roomyway.rooms import Room

MOST_DEEP = 40
LONGEST_LENGTH = 2
LONGEST_INTEGER = 200
# Python refuses to write integers of many thousand digits at once, so they are written in blocks.
DIGITS_OF_BLOCK = 64
BLOCK = 10 ** 64


def write(thing):
    """Return the written form of an integer, a text or a tuple of such things."""
    if isinstance(thing, tuple):
        return "(" + ",".join([write(part) for part in thing]) + ")"
    if isinstance(thing, str):
        return f"{len(thing)}:{thing}"
    if thing < 0:
        return "-" + _digits(-thing)
    return _digits(thing)


def _digits(n):
    """Return the decimal digits of an integer that is not below zero."""
    blocks = []
    while n >= BLOCK:
        n, low = divmod(n, BLOCK)
        blocks.append(str(low).zfill(DIGITS_OF_BLOCK))
    blocks.append(str(n))
    return "".join(blocks[::-1])


def read(text):
    """Return the thing of which a text is the written form; raise BadText if there is none."""
    thing, end = _thing_at(text, 0, 0)
    if end != len(text):
        raise BadText("there is something behind the end")
    return thing


def _thing_at(text, at, depth):
    """Return the thing whose written form begins at an index, within so many tuples, and the index behind it."""
    sign = text[at:at + 1]
    if sign == "(":
        return _tuple_at(text, at + 1, depth + 1)
    if sign == "-":
        digits, end = _digits_at(text, at + 1)
        if digits == "0":
            raise BadText("zero has no sign")
        return (-_integer(digits, LONGEST_INTEGER), end)
    digits, end = _digits_at(text, at)
    if text[end:end + 1] != ":":
        return (_integer(digits, LONGEST_INTEGER), end)
    begin = end + 1
    end = begin + _integer(digits, LONGEST_LENGTH)
    if end > len(text):
        raise BadText("a text is too short")
    return (text[begin:end], end)


def _tuple_at(text, at, depth):
    """Return the tuple whose first part (or end) is at an index, and the index behind it."""
    if depth > MOST_DEEP:
        raise BadText("a tuple is too deep")
    if text[at:at + 1] == ")":
        return ((), at + 1)
    parts = []
    sign = ","
    while sign == ",":
        part, end = _thing_at(text, at, depth)
        parts.append(part)
        sign = text[end:end + 1]
        at = end + 1
    if sign != ")":
        raise BadText("a tuple does not end")
    return (tuple(parts), at)


def _digits_at(text, at):
    """Return the digits from an index on, and the index behind them."""
    end = at
    # Compared one by one, since Python also takes digits beyond 0 to 9 for some.
    while "0" <= text[end:end + 1] <= "9":
        end += 1
    return (text[at:end], end)


def _integer(digits, most):
    """Return the integer of at most so many digits; raise BadText if they are none or not as they are written."""
    if not 1 <= len(digits) <= most:
        raise BadText("an integer has no digits or too many")
    if digits[0] == "0" and digits != "0":
        raise BadText("an integer has a leading zero")
    return int(digits)


def room_text(room):
    """Return the text of a room."""
    width, height = room.size()
    lines = [f"room {width} {height}\n"]
    walls = room.walls()
    lines.extend([_line("wall", name, walls[name]) for name in sorted(walls)])
    doors = room.doors()
    lines.extend([_line("shut" if doors[name][1] else "open", name, doors[name][0]) for name in sorted(doors)])
    bodies = room.bodies()
    lines.extend([_line("body", name, bodies[name]) for name in sorted(bodies)])
    return "".join(lines)


def _line(word, name, shape):
    """Return the line of a wall, a door or a body."""
    return f"{word} {name} {write(shape)}\n"


def read_room(text):
    """Return the room of a text; raise BadText if it is not the text of a room."""
    lines = text.split("\n")
    try:
        room = _empty_room(lines[0])
        for line in lines[1:-1]:
            _add_line(room, line)
    except RoomError:
        raise BadText("a line is not one of a room") from None
    # A room has one text only, so whatever differs from it is in the wrong order or wrongly written.
    if room_text(room) != text:
        raise BadText("the text is not just that of a room")
    return room


def _empty_room(line):
    """Return the room of the first line."""
    word, width, height = _words(line)
    if word != "room":
        raise BadText("the first line is not that of a room")
    return Room(read(width), read(height))


def _words(line):
    """Return the three words of a line."""
    words = line.split(" ")
    if len(words) != 3:
        raise BadText("a line does not have three words")
    return words


def _add_line(room, line):
    """Add the wall, the door or the body of a line to a room."""
    word, name, written = _words(line)
    shape = read(written)
    if word == "wall":
        room.build(name, shape)
    elif word == "body":
        room.add_body(name, shape)
    elif word in ("shut", "open"):
        room.hang(name, shape)
        if word == "open":
            room.open_door(name)
    else:
        raise BadText("a line has an unknown word")
