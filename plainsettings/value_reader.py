"""Values: strings, words, lists and tables in braces."""

from plainsettings.key_reader import is_quote, read_keys, read_string
from plainsettings.kinds import LIST, TABLE, TEXT, WRITTEN, empty_list, empty_table, written
from plainsettings.refusals import CannotBe, Malformed
from plainsettings.signs import COMMA, EQUALS, LEFT_BRACE, LEFT_BRACKET, RIGHT_BRACE, RIGHT_BRACKET
from plainsettings.tables import put_setting
from plainsettings.word_reader import read_word

MOST_DEEP = 32


class Holder:
    """A list or a table in braces whose end has not come yet."""

    def __init__(self, value, closing):
        self.value = value
        self.closing = closing
        # In braces, the keys of the setting whose value comes next.
        self.awaited = []


def read_value(scan):
    """The value whose first sign comes."""
    # A list of what holds what, outermost first, instead of calls within calls.
    holders = []
    while True:
        value = begin_value(scan, holders)
        while value is not None and len(holders) > 0:
            value = add_value(scan, holders, value)
        if value is not None:
            return value


def begin_value(scan, holders):
    """A whole value; or None where a list or braces began and their first value comes."""
    sign = scan.sign()
    if sign == LEFT_BRACKET:
        return begin_holder(scan, holders, Holder(empty_list(WRITTEN), RIGHT_BRACKET))
    if sign == LEFT_BRACE:
        return begin_holder(scan, holders, Holder(empty_table(WRITTEN), RIGHT_BRACE))
    if is_quote(sign):
        return written(TEXT, read_string(scan))
    return read_word(scan)


def begin_holder(scan, holders, holder):
    if len(holders) == MOST_DEEP:
        raise Malformed()
    scan.step()
    scan.skip_blanks()
    if scan.takes(holder.closing):
        return holder.value
    holders.append(holder)
    go_to_value(scan, holder)
    return None


def go_to_value(scan, holder):
    """Reads on to the next value in holder: in braces its keys and = stand ahead of it."""
    if holder.value.kind == TABLE:
        holder.awaited = read_keys(scan)
        scan.must_take(EQUALS)
    scan.skip_blanks()


def add_value(scan, holders, value):
    """Puts value into the innermost holder; gives that one's value where it ends, or None where it goes on."""
    holder = holders[-1]
    put_into(holder, value)
    scan.skip_blanks()
    if not scan.takes(COMMA):
        scan.must_take(holder.closing)
        return holders.pop().value
    scan.skip_blanks()
    if holder.value.kind == LIST and scan.takes(holder.closing):
        return holders.pop().value
    go_to_value(scan, holder)
    return None


def put_into(holder, value):
    if holder.value.kind == LIST:
        holder.value.content.append(value)
        return
    try:
        put_setting(holder.value, holder.awaited, value)
    except CannotBe:
        # Keys in braces that can't be make the line none, not one that can't be.
        raise Malformed() from None
