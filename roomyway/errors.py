"""The errors that the functions and classes of the program raise."""


class RoomError(ValueError):
    """The base class of all errors."""


class InvalidArgument(RoomError):
    """A name, a shape, a size or a number is malformed or out of its bounds."""


class NotFree(RoomError):
    """A place that must be free (or loose) is not."""


class UnknownThing(RoomError):
    """There is no body, wall, door or request of that name."""


class DuplicateThing(RoomError):
    """The name is taken."""


class TooLarge(RoomError):
    """There are or would be more things than a bound allows."""


class NothingToUndo(RoomError):
    """There is no change that could be taken back."""


class BadText(RoomError):
    """A text is not one that can be read."""
