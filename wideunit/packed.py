"""Packed numbers: 18 decimal digits, two a byte, the lowest byte first, and a sign in the tenth byte."""

from wideunit.floats import finite_bits

SIGN_BYTE = 9
SIGN_BIT_PLACE = 7


def packed_digits(packed):
    """The digits as they stand, the lowest first."""
    digits = []
    for byte in packed[:SIGN_BYTE]:
        digits.append(byte & 15)
        digits.append(byte >> 4)
    return digits


def has_wrong_digit(packed):
    return max(packed_digits(packed)) > 9


def loaded_packed(packed):
    size = 0
    for digit in reversed(packed_digits(packed)):
        size = 10 * size + digit
    return finite_bits(packed[SIGN_BYTE] >> SIGN_BIT_PLACE, size, 0)
