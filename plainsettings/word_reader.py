"""Words: true, false, days, whole and real numbers."""

from plainsettings.days import day_number
from plainsettings.kinds import DAY, REAL, TRUTH, WHOLE, written
from plainsettings.reals import INFINITY, NAN, SIGN_BIT, nearest_double, number_of
from plainsettings.refusals import Malformed
from plainsettings.signs import DIGITS, PLUS, is_word_sign

# The signs from + on, in the order of their bytes.
SIGNS_FROM_PLUS = "+,-./0123456789:;<=>?@ABCDEFGHIJKLMNOPQRSTUVWXYZ[\\]^_`abcdefghijklmnopqrstuvwxyz"

BASES = {"0x": 16, "0o": 8, "0b": 2}

HIGHEST_WHOLE = 9223372036854775807


def read_word(scan):
    """The value that the word stands for whose first sign comes."""
    signs = []
    while is_word_sign(scan.sign()):
        signs.append(SIGNS_FROM_PLUS[scan.step() - PLUS])
    return value_of_word("".join(signs))


def value_of_word(word):
    if word == "true" or word == "false":
        return written(TRUTH, word == "true")
    day = day_number(word)
    if day is not None:
        return written(DAY, day)
    whole = whole_number(word)
    if whole is not None:
        return written(WHOLE, whole)
    bits = real_number(word)
    if bits is not None:
        return written(REAL, bits)
    raise Malformed()


def without_sign(word):
    if word.startswith("+") or word.startswith("-"):
        return word[1:]
    return word


def joined_digits(word, base):
    """The digits of base that word is, without the _ between two; None where word is no such."""
    digits = DIGITS[:base]
    parts = word.split("_")
    for part in parts:
        if part == "" or not all([digit in digits for digit in part.lower()]):
            return None
    return "".join(parts)


def leading_digits(word):
    """The tens' digits that word is, no 0 before others; None where word is no such."""
    digits = joined_digits(word, 10)
    if digits is None or (len(digits) > 1 and digits.startswith("0")):
        return None
    return digits


def signed(word, number):
    """The number whose digits stand in word, with the sign that word begins with."""
    return -number if word.startswith("-") else number


def whole_number(word):
    """The whole number that word writes, or None."""
    if word[:2] in BASES:
        base = BASES[word[:2]]
        digits = joined_digits(word[2:], base)
    else:
        base = 10
        digits = leading_digits(without_sign(word))
    if digits is None:
        return None
    number = signed(word, number_of(digits, base))
    if number < -HIGHEST_WHOLE - 1 or number > HIGHEST_WHOLE:
        return None
    return number


def real_number(word):
    """The bits of the real number that word writes, or None."""
    bits = unsigned_real(without_sign(word))
    if bits is None or not word.startswith("-"):
        return bits
    return bits + SIGN_BIT


def unsigned_real(word):
    if word == "inf":
        return INFINITY
    if word == "nan":
        return NAN
    halves = word.replace("E", "e").partition("e")
    pieces = halves[0].partition(".")
    if pieces[1] == "" and halves[1] == "":
        return None
    digits = leading_digits(pieces[0])
    fraction = "" if pieces[1] == "" else joined_digits(pieces[2], 10)
    exponent = 0 if halves[1] == "" else exponent_of(halves[2])
    if digits is None or fraction is None or exponent is None:
        return None
    return nearest_double(digits + fraction, exponent - len(fraction))


def exponent_of(word):
    digits = joined_digits(without_sign(word), 10)
    if digits is None:
        return None
    return signed(word, number_of(digits, 10))
