"""Packed numbers: 18 decimal digits, two a byte, the lowest byte first, and a sign in the tenth byte."""

from wideunit.codes import INVALID
from wideunit.floats import finite_bits, is_finite
from wideunit.rounding import rounded_whole

SIGN_BYTE = 9
SIGN_BIT_PLACE = 7
NOT_PACKED = (0, 0, 0, 0, 0, 0, 0, 0xC0, 0xFF, 0xFF)


def packed_digits(packed):
    """The digits as they stand, the lowest first."""
    digits = []
    for byte in packed[:SIGN_BYTE]:
        digits.append(byte & 15)
        digits.append(byte >> 4)
    return digits


def has_wrong_digit(packed):
    return max(packed_digits(packed)) > 9


def loaded_packed(packed):
    size = 0
    for digit in reversed(packed_digits(packed)):
        size = 10 * size + digit
    return finite_bits(packed[SIGN_BYTE] >> SIGN_BIT_PLACE, size, 0)


def stored_packed(r, a):
    """The ten bytes and the flags."""
    if not is_finite(a):
        return list(NOT_PACKED) + [INVALID]
    came = rounded_whole(a.sign, a.significand, a.power, r)
    if came[0] >= 10 ** 18:
        return list(NOT_PACKED) + [INVALID]
    return packed_bytes(a.sign, came[0]) + [came[1]]


def packed_bytes(sign, size):
    packed = []
    rest = size
    while len(packed) < SIGN_BYTE:
        packed.append(rest // 10 % 10 * 16 + rest % 10)
        rest = rest // 100
    return packed + [sign << SIGN_BIT_PLACE]
