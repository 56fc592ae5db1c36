"""Rooms with two free places of the body called mover, in which a free way leads from the one to the other, or none."""

from helpers import POINT, SQUARE, a_room, box, spot


def grouped(pieces):
    """Shapes of up to three of the pieces each."""
    return [tuple(pieces[k:k + 3]) for k in range(0, len(pieces), 3)]


def row_of_walls(many, shut):
    """A room with upright walls that leave a gap at the bottom and at the top in turn, or one of them none."""
    pieces = []
    for k in range(many):
        low, high = (1, 10) if k % 2 else (0, 9)
        if k == shut:
            low, high = 0, 10
        pieces.append(((2 * k + 2, low), (2 * k + 2, high)))
    return a_room(2 * many + 2, 10, walls=grouped(pieces), body=(POINT,))


def nested_rings(shut):
    """A room with four rings of thin walls around each other, with gaps on the one and the other side in turn."""
    pieces = []
    for k in (2, 4, 6, 8):
        far = 20 - k
        gap = k if k == shut else k + 1
        pieces.extend([((k, k), (far, k)), ((k, far), (far, far))])
        if k % 4 == 0:
            pieces.extend([((k, gap), (k, far)), ((far, k), (far, far))])
        else:
            pieces.extend([((k, k), (k, far)), ((far, gap), (far, far))])
    return a_room(20, 20, walls=grouped(pieces), body=(POINT,))


def near_the_line(corner, end):
    """A room in which the only way leads between a corner and a long side from (0, 0) to the end."""
    x, y = corner
    width, rise = end
    walls = [(((0, 0), (width, 0), (width, rise)),), (((x - 50, 700), (x, y), (x + 50, 700)),)]
    return a_room(width, 700, walls=walls, body=(POINT,))


def ring_of_boxes(door_is_open):
    """A room with a ring of four boxes around the middle and a door in it."""
    walls = [(box(4, 4, 5, 11),), (box(4, 10, 11, 11),), (box(10, 4, 11, 11),), (box(4, 4, 7, 5), box(9, 4, 11, 5))]
    room = a_room(15, 15, walls=walls, doors=[(box(7, 4, 9, 5),)])
    if door_is_open:
        room.open_door("e")
    return room


def crowded(many):
    """A room with an obstacle in front of each place, and a body of three pieces: 12 + 3 * many regions."""
    pieces = [box(3 * k + 3, 3 * (k % 2), 3 * k + 4, 3 * (k % 2) + 7) for k in range(many)]
    return a_room(3 * many + 6, 10, walls=grouped(pieces), body=(((0, 0),), ((1, 0),), ((0, 1), (1, 1))))


EMPTY = a_room(20, 10)
AROUND = a_room(20, 10, walls=[(box(8, -5, 9, 7),)])
BLOCKED = a_room(20, 10, walls=[(box(8, 0, 9, 10),)])
ALONG = a_room(20, 10, walls=[(box(8, 0, 9, 9),)])
TWO_WIDE = a_room(20, 10, walls=[(box(8, 0, 9, 8),)])
DIAGONAL = a_room(20, 10, walls=[(box(8, -2, 10, 5),), (box(10, 5, 12, 12),)], body=(POINT,))
CORNERS = a_room(20, 10, walls=[(box(8, 0, 10, 4),), (box(11, 5, 13, 10),)])
APART = a_room(20, 10, walls=[(box(8, 0, 10, 4),), (box(12, 5, 14, 10),)])
LINE = a_room(20, 10, walls=[(((8, 0), (12, 10)),)], body=(POINT,))
HALF_LINE = a_room(20, 10, walls=[(((8, 0), (11, 9)),)], body=(POINT,))
THREE_LINES = a_room(20, 10, walls=[(((2, 0), (9, 7)), ((6, 4), (15, 4)), ((13, 10), (15, 4)))], body=(POINT,))
DOTS = a_room(20, 10, walls=grouped([((8, y),) for y in range(11)]), body=(POINT,))
DOTS_AND_BODY = a_room(20, 10, walls=grouped([((8, y),) for y in range(11)]), body=(((0, 0), (0, 1)),))
SHUT = a_room(20, 10, walls=[(box(8, 0, 9, 4), box(8, 6, 9, 10))], doors=[(box(8, 4, 9, 6),)])
OPEN = SHUT.copy()
OPEN.open_door("b")
STRADDLING = a_room(20, 10, walls=[(box(2, 4, 18, 5),)], body=(SQUARE, box(0, 3, 1, 4)))
TWO_PIECES = a_room(20, 10, walls=[(box(8, 3, 9, 10),)], body=(SQUARE, box(0, 3, 1, 4)))
LARGE_BODY = a_room(20, 10, walls=[(((9, 5), (10, 4), (11, 5), (10, 6)),)], body=(box(-3, -3, 3, 3),))
THREE_APART = a_room(20, 10, walls=[(((9, 5), (10, 4), (11, 5), (10, 6)),)], body=(((-3, 0),), ((3, 0),), ((0, 3),)))
POCKET = a_room(20, 20, walls=grouped([
    ((5, 5), (15, 5)), ((5, 5), (5, 15)), ((5, 15), (15, 15)), ((15, 5), (15, 15)), ((10, 5), (10, 14)),
]), body=(POINT,))
LEFT, RIGHT = spot(2, 5), spot(17, 4)

CASES = {
    "empty": (EMPTY, LEFT, RIGHT, True),
    "around a wall": (AROUND, LEFT, RIGHT, True),
    "from frame to frame": (BLOCKED, LEFT, RIGHT, False),
    "as wide as the body": (ALONG, LEFT, RIGHT, False),
    "wider than the body": (TWO_WIDE, LEFT, RIGHT, True),
    "walls that touch in a point": (DIAGONAL, LEFT, RIGHT, False),
    "on one side of the point": (DIAGONAL, spot(13, 2), spot("21/2", "1/2"), True),
    "regions that touch in a point": (CORNERS, LEFT, RIGHT, False),
    "regions that do not touch": (APART, LEFT, RIGHT, True),
    "a line from frame to frame": (LINE, LEFT, RIGHT, False),
    "a line that ends before the frame": (HALF_LINE, LEFT, RIGHT, True),
    "lines that end on each other": (THREE_LINES, LEFT, RIGHT, False),
    "lines that end on each other, one side": (THREE_LINES, LEFT, spot(12, 9), True),
    "between dots": (DOTS, LEFT, RIGHT, True),
    "not between dots": (DOTS_AND_BODY, LEFT, RIGHT, False),
    "a shut door": (SHUT, LEFT, RIGHT, False),
    "an open door": (OPEN, LEFT, RIGHT, True),
    "a wall between the pieces of a body": (STRADDLING, spot(5, "5/2"), spot(14, "5/2"), True),
    "off the wall between them": (STRADDLING, spot(5, "5/2"), spot(5, "11/2"), True),
    "a wall that one of two pieces meets": (TWO_PIECES, LEFT, RIGHT, False),
    "a body that fills the room": (LARGE_BODY, spot(4, 5), spot(16, 5), False),
    "a body that has room between its pieces": (THREE_APART, spot("7/2", 4), spot(16, 4), True),
    "a row of walls": (row_of_walls(9, None), spot(1, 5), spot(19, 5), True),
    "a row of walls, one shut": (row_of_walls(9, 5), spot(1, 5), spot(19, 5), False),
    "a row of walls, before the shut one": (row_of_walls(9, 5), spot(1, 5), spot("23/2", 5), True),
    "nested rings": (nested_rings(None), spot(10, 10), spot(1, 1), True),
    "nested rings, one shut": (nested_rings(6), spot(10, 10), spot(1, 1), False),
    "nested rings, outside of the shut one": (nested_rings(6), spot(5, 10), spot(1, 1), True),
    "a narrow gap": (near_the_line((523, 320), (997, 610)), spot(10, 300), spot(990, 690), True),
    "no gap at all": (near_the_line((497, 304), (994, 608)), spot(10, 300), spot(990, 690), False),
    "out of a ring": (ring_of_boxes(True), spot(7, 7), spot(1, 1), True),
    "within a ring": (ring_of_boxes(False), spot(7, 7), spot(1, 1), False),
    "round a ring": (ring_of_boxes(False), spot(13, 13), spot(1, 1), True),
    "in a pocket": (POCKET, spot(6, 6), spot(14, 6), True),
    "two sides of a pocket": (POCKET, spot(6, 6), spot(4, 6), False),
    "sixty regions": (crowded(16), spot(1, 1), spot("103/2", 1), True),
    "to itself": (AROUND, LEFT, LEFT, True),
    "in a narrow room": (a_room(2, 2), spot("1/3", "1/5"), spot("6/7", "1/7"), True),
}
