"""Characters and their UTF-8."""


def is_character(code):
    """Whether code is a character's: no surrogate, nothing past 10FFFFH."""
    return code < 0xD800 or 0xDFFF < code <= 0x10FFFF


def shortest_length(code):
    """How many bytes the shortest UTF-8 of code has."""
    if code < 0x80:
        return 1
    if code < 0x800:
        return 2
    if code < 0x10000:
        return 3
    return 4


def utf8_of(code):
    """The bytes of a character's UTF-8."""
    length = shortest_length(code)
    if length == 1:
        return [code]
    if length == 2:
        return [0xC0 + (code >> 6), later_byte(code)]
    if length == 3:
        return [0xE0 + (code >> 12), later_byte(code >> 6), later_byte(code)]
    return [0xF0 + (code >> 18), later_byte(code >> 12), later_byte(code >> 6), later_byte(code)]


def later_byte(code):
    """The byte that holds the lowest six bits of code."""
    return 0x80 + (code & 0x3F)


def length_told_by(first):
    """How many bytes a character has that begins with the byte first; 0 where none does."""
    if first < 0x80:
        return 1
    if 0xC0 <= first < 0xE0:
        return 2
    if 0xE0 <= first < 0xF0:
        return 3
    if 0xF0 <= first < 0xF8:
        return 4
    return 0


def bits_of_first(first, length):
    """What the first of length bytes holds of the character."""
    if length == 1:
        return first
    return first & (0x7F >> length)


def is_one_character(row):
    """Whether row, as long as its first byte tells, is one character's shortest UTF-8."""
    code = bits_of_first(row[0], len(row))
    for sign in row[1:]:
        if sign & 0xC0 != 0x80:
            return False
        code = (code << 6) + (sign & 0x3F)
    return is_character(code) and shortest_length(code) == len(row)


def is_utf8(row):
    """Whether the bytes of row are UTF-8 from end to end."""
    at = 0
    while at < len(row):
        length = length_told_by(row[at])
        if length == 0 or at + length > len(row):
            return False
        if not is_one_character(row[at:at + length]):
            return False
        at += length
    return True
