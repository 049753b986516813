"""Values told as bytes, in one plain form."""

from plainsettings.kinds import DAY, LIST, REAL, TABLE, TEXT, TRUTH, Value
from plainsettings.signs import AT_SIGN, BACKSLASH, COLON, COMMA, DIGITS, DOUBLE_QUOTE, LEFT_BRACE, LEFT_BRACKET
from plainsettings.signs import NUMBER_SIGN, RIGHT_BRACE, RIGHT_BRACKET, SMALL_U, ZERO, bytes_of, is_control


def told_once(value):
    """The bytes that tell value, which must not change any more."""
    # Kept with the value, so that asking again for much costs little.
    if value.told is None:
        value.told = tell(value)
    return value.told


def tell(value):
    told = []
    # What is still to be told, the next at the end: values, and rows of bytes between them.
    # Tables may be nested deeper than Python lets calls be.
    waiting = [value]
    while len(waiting) > 0:
        piece = waiting.pop()
        if not isinstance(piece, Value):
            told.extend(piece)
        elif piece.kind == LIST:
            waiting.extend(list(reversed(pieces_of_list(piece.content))))
        elif piece.kind == TABLE:
            waiting.extend(list(reversed(pieces_of_table(piece.content))))
        else:
            told.extend(tell_plain(piece))
    return told


def pieces_of_list(content):
    pieces = [[LEFT_BRACKET]]
    for value in content:
        if len(pieces) > 1:
            pieces.append([COMMA])
        pieces.append(value)
    pieces.append([RIGHT_BRACKET])
    return pieces


def pieces_of_table(content):
    pieces = [[LEFT_BRACE]]
    for key, value in content.items():
        if len(pieces) > 1:
            pieces.append([COMMA])
        pieces.append(tell_text(key))
        pieces.append([COLON])
        pieces.append(value)
    pieces.append([RIGHT_BRACE])
    return pieces


def tell_plain(value):
    """The bytes that tell a value which holds no others."""
    if value.kind == TEXT:
        return tell_text(value.content)
    if value.kind == REAL:
        return [NUMBER_SIGN] + hexadecimal(value.content, 16)
    if value.kind == TRUTH:
        return bytes_of("true" if value.content else "false")
    if value.kind == DAY:
        return [AT_SIGN] + bytes_of(str(value.content))
    return bytes_of(str(value.content))


def tell_text(content):
    told = [DOUBLE_QUOTE]
    for sign in content:
        if is_control(sign):
            told.extend([BACKSLASH, SMALL_U, ZERO, ZERO])
            told.extend(hexadecimal(sign, 2))
        elif sign == DOUBLE_QUOTE or sign == BACKSLASH:
            told.extend([BACKSLASH, sign])
        else:
            told.append(sign)
    told.append(DOUBLE_QUOTE)
    return told


def hexadecimal(number, length):
    """The last length hexadecimal digits of number, as bytes."""
    return [ord(DIGITS[(number >> (4 * place)) % 16]) for place in range(length - 1, -1, -1)]
