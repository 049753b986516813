"""A text's lines, and what each of them says."""

from plainsettings.characters import is_utf8
from plainsettings.key_reader import read_keys
from plainsettings.refusals import Malformed
from plainsettings.scan import Scan
from plainsettings.signs import CARRIAGE_RETURN, END, EQUALS, LEFT_BRACKET, LINE_FEED, NUMBER_SIGN
from plainsettings.signs import RIGHT_BRACKET, TAB, is_control
from plainsettings.value_reader import read_value

# What a line may be: nothing (or a remark), a table's line, a row's line, a setting.
NOTHING = 0
TABLE_LINE = 1
ROW_LINE = 2
SETTING = 3


class Line:
    """What a line says: its form, its keys, and its value where it is a setting."""

    def __init__(self, form, names, value):
        self.form = form
        self.names = names
        self.value = value


def split_lines(text):
    """The lines of text, without what ends them."""
    lines = []
    row = []
    for sign in text:
        if sign == LINE_FEED:
            lines.append(without_return(row))
            row = []
        else:
            row.append(sign)
    if len(row) > 0:
        lines.append(without_return(row))
    return lines


def without_return(row):
    if len(row) > 0 and row[-1] == CARRIAGE_RETURN:
        return row[:-1]
    return row


def has_control(row):
    return any([is_control(sign) and sign != TAB for sign in row])


def read_line(row):
    """What the line says whose bytes are row."""
    if has_control(row) or not is_utf8(row):
        raise Malformed()
    scan = Scan(row)
    scan.skip_blanks()
    if is_at_end(scan):
        return Line(NOTHING, [], None)
    if scan.takes(LEFT_BRACKET):
        line = read_heading(scan)
    else:
        line = read_setting(scan)
    scan.skip_blanks()
    if not is_at_end(scan):
        raise Malformed()
    return line


def is_at_end(scan):
    """Whether nothing comes but a remark."""
    return scan.sign() == END or scan.sign() == NUMBER_SIGN


def read_heading(scan):
    """A table's or a row's line, behind its first bracket."""
    is_row = scan.takes(LEFT_BRACKET)
    names = read_keys(scan)
    scan.must_take(RIGHT_BRACKET)
    if not is_row:
        return Line(TABLE_LINE, names, None)
    scan.must_take(RIGHT_BRACKET)
    return Line(ROW_LINE, names, None)


def read_setting(scan):
    names = read_keys(scan)
    scan.must_take(EQUALS)
    scan.skip_blanks()
    return Line(SETTING, names, read_value(scan))
