"""Pictures: what the places of a body are like, as lines of characters."""

from roomyway.errors import InvalidArgument, TooLarge
from roomyway.points import is_whole, point
from roomyway.regions import Field

LONGEST_STEP = 100
MOST_CHARACTERS = 400


def picture(room, body, step):
    """Return the picture of a body with a step."""
    field = Field(room, body)
    if not is_whole(step, 1, LONGEST_STEP):
        raise InvalidArgument("a step is from 1 to 100")
    width, height = room.size()
    columns = range(0, width, step)
    rows = range(0, height, step)
    if len(columns) * len(rows) > MOST_CHARACTERS:
        raise TooLarge("the picture would have too many characters")
    lines = ["".join([_character(field, point((x, y))) for x in columns]) + "\n" for y in rows]
    return "".join(lines[::-1])


def _character(field, place):
    """Return the character that stands for a place."""
    if field.has_free(place):
        return "."
    return "o" if field.has_loose(place) else "#"
