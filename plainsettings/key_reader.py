"""Strings and keys."""

from plainsettings.characters import is_character, utf8_of
from plainsettings.refusals import Malformed
from plainsettings.signs import BACKSLASH, DOUBLE_QUOTE, POINT, SINGLE_QUOTE, is_key_sign

MOST_KEYS = 32

# Behind a backslash: b, t, n, f, r, a quote, a backslash; and what they stand for.
ESCAPES = {98: 8, 116: 9, 110: 10, 102: 12, 114: 13, 34: 34, 92: 92}

# Behind a backslash: u and U; and how many hexadecimal digits follow.
CODE_LENGTHS = {117: 4, 85: 8}


def is_quote(sign):
    return sign == DOUBLE_QUOTE or sign == SINGLE_QUOTE


def read_string(scan):
    """The bytes that a string stands for, its first quote being the byte that comes."""
    if scan.step() == SINGLE_QUOTE:
        return read_as_it_is(scan)
    return read_with_escapes(scan)


def read_as_it_is(scan):
    content = []
    sign = scan.step()
    while sign != SINGLE_QUOTE:
        content.append(sign)
        sign = scan.step()
    return tuple(content)


def read_with_escapes(scan):
    content = []
    sign = scan.step()
    while sign != DOUBLE_QUOTE:
        if sign == BACKSLASH:
            content.extend(read_escape(scan))
        else:
            content.append(sign)
        sign = scan.step()
    return tuple(content)


def read_escape(scan):
    """What the signs behind a backslash stand for."""
    sign = scan.step()
    if sign in ESCAPES:
        return [ESCAPES[sign]]
    if sign not in CODE_LENGTHS:
        raise Malformed()
    code = read_hexadecimal(scan, CODE_LENGTHS[sign])
    if not is_character(code):
        raise Malformed()
    return utf8_of(code)


def read_hexadecimal(scan, length):
    code = 0
    for place in range(length):
        code = code * 16 + hexadecimal_digit(scan.step())
    return code


def hexadecimal_digit(sign):
    if 48 <= sign <= 57:
        return sign - 48
    if 65 <= sign <= 70:
        return sign - 55
    if 97 <= sign <= 102:
        return sign - 87
    raise Malformed()


def read_keys(scan):
    """1 to 32 keys with points between, blanks around each."""
    keys = [read_key(scan)]
    while scan.takes(POINT):
        keys.append(read_key(scan))
    if len(keys) > MOST_KEYS:
        raise Malformed()
    return keys


def read_key(scan):
    scan.skip_blanks()
    if is_quote(scan.sign()):
        key = read_string(scan)
    else:
        key = read_bare_key(scan)
    scan.skip_blanks()
    return key


def read_bare_key(scan):
    key = []
    while is_key_sign(scan.sign()):
        key.append(scan.step())
    if len(key) == 0:
        raise Malformed()
    return tuple(key)
