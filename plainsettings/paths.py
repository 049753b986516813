"""Paths, and what stands where they lead."""

from plainsettings.key_reader import read_keys
from plainsettings.kinds import LIST, TABLE
from plainsettings.refusals import Malformed, NoPath, NothingThere
from plainsettings.scan import Scan
from plainsettings.signs import END, is_digit


def value_at(whole, path):
    """What stands in whole where the bytes of path lead."""
    value = whole
    for key in keys_of_path(path):
        value = member(value, key)
    return value


def keys_of_path(path):
    scan = Scan(path)
    scan.skip_blanks()
    if scan.sign() == END:
        return []
    try:
        keys = read_keys(scan)
    except Malformed:
        raise NoPath() from None
    if scan.sign() != END:
        raise NoPath()
    return keys


def member(value, key):
    """What stands at key in a table, a list or rows."""
    found = None
    if value.kind == TABLE:
        found = value.content.get(key)
    elif value.kind == LIST:
        found = numbered_member(value.content, key)
    if found is None:
        raise NothingThere()
    return found


def numbered_member(content, key):
    # A longer number leads past every end, however long it is.
    if not is_number(key) or len(key) > len(str(len(content))):
        return None
    number = 0
    for sign in key:
        number = number * 10 + sign - 48
    if number >= len(content):
        return None
    return content[number]


def is_number(key):
    """Whether key is a number in tens, no 0 before others."""
    if len(key) == 0 or not all([is_digit(sign) for sign in key]):
        return False
    return len(key) == 1 or key[0] != 48
