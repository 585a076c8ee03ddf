"""Exact values rounded to floats: size 2^power, with a sign beside it."""

from wideunit.codes import CUT, DOWN, INEXACT, NEAR, OVERFLOW, UNDERFLOW, UP, UPWARD
from wideunit.formats import endless_bits, extended_format, value_bits


def rounds_away(sign, whole, rest, half, r):
    """Whether what lies between two multiples, rest above the smaller one, goes to the greater in size."""
    if r == NEAR:
        return rest > half or (rest == half and whole % 2 == 1)
    if r == DOWN:
        return sign == 1
    if r == UPWARD:
        return sign == 0
    return False


def rounded_multiple(sign, size, power, unit, r):
    """Which whole multiple of 2^unit the value becomes."""
    places = unit - power
    if places <= 0:
        return size << -places
    whole = size >> places
    rest = size - (whole << places)
    if rest > 0 and rounds_away(sign, whole, rest, 1 << (places - 1), r):
        return whole + 1
    return whole


def flags_of_loss(multiple, unit, size, power):
    """The flags inexact and up of a value that became a multiple of 2^unit."""
    places = unit - power
    if places <= 0:
        return 0
    came = multiple << places
    if came == size:
        return 0
    return INEXACT + UP if came > size else INEXACT


def rounded_whole(sign, size, power, r):
    """The size of the whole number that the value becomes, and the flags."""
    whole = rounded_multiple(sign, size, power, 0, r)
    return [whole, flags_of_loss(whole, 0, size, power)]


def rounded(sign, size, power, q, r):
    """The extended float of a value that isn't 0, to q digits: its bits and flags."""
    return rounded_to(extended_format(), sign, size, power, q, r)


def rounded_to(form, sign, size, power, q, r):
    """The format's float of a value that isn't 0, to q digits: its bits and flags."""
    unit = size.bit_length() + power - q
    multiple = rounded_multiple(sign, size, power, unit, r)
    # Asked of the rounded value: a carry may lift it over either edge.
    exponent = multiple.bit_length() - 1 + unit
    if exponent > form.greatest_exponent:
        return overflowed(form, sign, q, r)
    if exponent < form.least_exponent:
        return rounded_small(form, sign, size, power, q, r)
    return [value_bits(form, sign, multiple, unit), flags_of_loss(multiple, unit, size, power)]


def rounded_small(form, sign, size, power, q, r):
    # Again from the exact value: what was rounded already must not be rounded twice.
    unit = form.least_exponent - q + 1
    multiple = rounded_multiple(sign, size, power, unit, r)
    loss = flags_of_loss(multiple, unit, size, power)
    flags = UNDERFLOW + loss if loss else 0
    return [value_bits(form, sign, multiple, unit), flags]


def overflowed(form, sign, q, r):
    if r == CUT or (r == DOWN and sign == 0) or (r == UPWARD and sign == 1):
        greatest = value_bits(form, sign, (1 << q) - 1, form.greatest_exponent - q + 1)
        return [greatest, OVERFLOW + INEXACT]
    return [endless_bits(form, sign), OVERFLOW + INEXACT + UP]
