"""From a number's digits to the nearest double."""

from plainsettings.signs import DIGITS

INFINITY = 0x7FF0000000000000
NAN = 0x7FF8000000000000
SIGN_BIT = 0x8000000000000000

# The smallest double above 0 is 2 to the power of minus this.
LOWEST_PLACE = 1074

# The largest double is below ten to the power of 309, and half of the smallest
# is above ten to the power of minus 324. Past these nothing need be worked out.
HIGHEST_REACH = 309
LOWEST_REACH = 324


def number_of(digits, base):
    """The number that the digits (capitals, too) write in base."""
    # Not by int alone: that refuses some thousand digits.
    number = 0
    for digit in digits.lower():
        number = number * base + DIGITS.find(digit)
    return number


def power_of_ten(exponent):
    power = 1
    square = 10
    left = exponent
    while left > 0:
        if left % 2 == 1:
            power = power * square
        square = square * square
        left = left // 2
    return power


def nearest_double(digits, exponent):
    """The bits of the double nearest to the digits' number times ten to the power of exponent."""
    number = number_of(digits, 10)
    if number == 0:
        return 0
    # The number is below ten to the power of reach, and at most ten times smaller.
    reach = len(digits.lstrip("0")) + exponent
    if reach > HIGHEST_REACH:
        return INFINITY
    if reach < -LOWEST_REACH:
        return 0
    if exponent < 0:
        return rounded_quotient(number, power_of_ten(-exponent))
    return rounded_quotient(number * power_of_ten(exponent), 1)


def rounded_quotient(top, bottom):
    """The bits of the double nearest to top through bottom, both above 0."""
    place = lowest_bit_place(top, bottom)
    parts = divided_at(top, bottom, place)
    bits = ((place + LOWEST_PLACE) << 52) + rounded_half_even(parts)
    return min(bits, INFINITY)


def lowest_bit_place(top, bottom):
    """The power of two that the last bit of the double stands for."""
    place = max(top.bit_length() - bottom.bit_length() - 53, -LOWEST_PLACE)
    if divided_at(top, bottom, place)[0] >= 2 ** 53:
        return place + 1
    return place


def divided_at(top, bottom, place):
    """The quotient counted in twos to the power of place, what is left, and by what it was divided."""
    if place < 0:
        top = top << -place
    else:
        bottom = bottom << place
    return (top // bottom, top % bottom, bottom)


def rounded_half_even(parts):
    quotient = parts[0]
    twice = parts[1] * 2
    if twice > parts[2] or (twice == parts[2] and quotient % 2 == 1):
        # A carry past 53 bits runs over into the exponent, as it should.
        return quotient + 1
    return quotient
