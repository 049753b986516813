"""What may stand somewhere in the settings."""

# The kinds, numbered as st_kind answers them. Lists and rows are one kind.
TEXT = 0
WHOLE = 1
REAL = 2
TRUTH = 3
DAY = 4
LIST = 5
TABLE = 6

# Where a value comes from: this decides which lines may still add to it.
WRITTEN = 0
BY_KEYS = 1
ON_THE_WAY = 2
BY_LINE = 3


class Value:
    """A value: its kind, what it holds, and where it comes from.

    content is a tuple of bytes for a text, a whole number for a whole number,
    for a real number (its bits) and for a day (days after 1970-01-01), True or
    False for a truth, a list of values for a list or rows, and a dict from keys
    (tuples of bytes) to values for a table.

    origin is WRITTEN for what stands behind an = (a list or braces among them),
    BY_KEYS for a table made by a setting's keys, ON_THE_WAY for a table only made
    on the way by a table's or a row's line, and BY_LINE for the rows and tables
    such lines stand for and for the whole.
    """

    def __init__(self, kind, content, origin):
        self.kind = kind
        self.content = content
        self.origin = origin
        # What tells it, once that was asked for.
        self.told = None


def written(kind, content):
    return Value(kind, content, WRITTEN)


def empty_table(origin):
    return Value(TABLE, {}, origin)


def empty_list(origin):
    return Value(LIST, [], origin)


def count_of(value):
    """How many bytes, values, rows or keys value has; 1 where it has none of these."""
    if value.kind == TEXT or value.kind == LIST or value.kind == TABLE:
        return len(value.content)
    return 1
