"""Extended floats: taken apart into kind, sign and value, and put together again."""

from wideunit.formats import endless_bits, extended_format, joined, value_bits

ZERO = "zero"
SMALL = "small"
NEARLY_SMALL = "nearly small"
NORMAL = "normal"
INFINITE = "infinite"
QUIET = "quiet"
LOUD = "loud"
ODD = "odd"

DIGITS = 64
LEAST_EXPONENT = -16382

# The places of the significand below its highest bit.
FRACTION_PLACES = 63
SIGN_PLACE = 79
ALL_EXPONENT_BITS = 0x7FFF
ALL_SIGNIFICAND_BITS = 0xFFFFFFFFFFFFFFFF
HIGHEST_SIGNIFICAND_BIT = 0x8000000000000000
QUIET_BIT = 0x4000000000000000
EMPTY = 0xFFFFC000000000000000


class Number:
    """A float by its parts; a finite one's size is significand 2^power."""

    def __init__(self, bits):
        exponent_bits = (bits >> DIGITS) & ALL_EXPONENT_BITS
        self.bits = bits
        self.sign = bits >> SIGN_PLACE
        self.significand = bits & ALL_SIGNIFICAND_BITS
        self.kind = kind_of(exponent_bits, self.significand)
        self.power = max(exponent_bits, 1) + LEAST_EXPONENT - DIGITS


def kind_of(exponent_bits, significand):
    high = significand & HIGHEST_SIGNIFICAND_BIT
    if exponent_bits == 0:
        if significand == 0:
            return ZERO
        return NEARLY_SMALL if high else SMALL
    if not high:
        return ODD
    if exponent_bits < ALL_EXPONENT_BITS:
        return NORMAL
    if significand == high:
        return INFINITE
    return QUIET if significand & QUIET_BIT else LOUD


def is_small(number):
    return number.kind in (SMALL, NEARLY_SMALL)


def is_no_number(number):
    return number.kind in (QUIET, LOUD, ODD)


def is_finite(number):
    return number.kind != INFINITE and not is_no_number(number)


def exponent_of(number):
    """The e with 2^e <= size < 2^(e + 1), of a finite number that isn't 0."""
    return number.significand.bit_length() - 1 + number.power


def turned(bits):
    return bits ^ (1 << SIGN_PLACE)


def without_sign(bits):
    return bits & ((1 << SIGN_PLACE) - 1)


def zero_bits(sign):
    return joined(extended_format(), sign, 0, 0)


def infinite_bits(sign):
    return endless_bits(extended_format(), sign)


def finite_bits(sign, size, power):
    """The bits of the float of the very value size 2^power: there must be one."""
    return value_bits(extended_format(), sign, size, power)


def bits_by_value(number):
    """The bits of a finite or infinite number, of a nearly small one those of the normal one."""
    if number.kind == INFINITE:
        return number.bits
    return finite_bits(number.sign, number.significand, number.power)
