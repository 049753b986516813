"""One error class for each reason to refuse."""


class Malformed(Exception):
    """The bytes are no such line, or no keys (st_read's -1; a path's -5)."""


class CannotBe(Exception):
    """The line is one, but what it says can't be (st_read's -2)."""


class TooLarge(Exception):
    """A number handed in is above what a call takes (-3)."""


class NothingThere(Exception):
    """The path leads to nothing (-4)."""


class NoPath(Exception):
    """The bytes are no path (-5)."""


class TooLong(Exception):
    """What is told has more bytes than were asked for at most (-6)."""


class OtherKind(Exception):
    """What stands there is of another kind than the call asks for (-7)."""
