"""The bytes that mean something in a line, by their names."""

TAB = 9
LINE_FEED = 10
CARRIAGE_RETURN = 13
SPACE = 32
DOUBLE_QUOTE = 34
NUMBER_SIGN = 35
SINGLE_QUOTE = 39
PLUS = 43
COMMA = 44
MINUS = 45
POINT = 46
ZERO = 48
COLON = 58
EQUALS = 61
AT_SIGN = 64
LEFT_BRACKET = 91
BACKSLASH = 92
RIGHT_BRACKET = 93
UNDERSCORE = 95
SMALL_U = 117
LEFT_BRACE = 123
RIGHT_BRACE = 125
DELETE = 127

# The digits of every base up to sixteen.
DIGITS = "0123456789abcdef"

# No byte: it stands for what comes behind the last one.
END = 256


def is_blank(sign):
    return sign == SPACE or sign == TAB


def is_control(sign):
    return sign < SPACE or sign == DELETE


def is_digit(sign):
    return 48 <= sign <= 57


def is_letter(sign):
    return 65 <= sign <= 90 or 97 <= sign <= 122


def is_key_sign(sign):
    return is_letter(sign) or is_digit(sign) or sign == MINUS or sign == UNDERSCORE


def is_word_sign(sign):
    return is_key_sign(sign) or sign == PLUS or sign == POINT


def bytes_of(text):
    """The bytes of a text of ASCII."""
    return [ord(sign) for sign in text]
