"""scale, extract and rint of operands that are no quiet, loud or odd ones."""

from wideunit.codes import DIVIDED_BY_ZERO, INVALID
from wideunit.floats import DIGITS, EMPTY, INFINITE, ZERO
from wideunit.floats import exponent_of, finite_bits, infinite_bits, zero_bits
from wideunit.formats import shifted
from wideunit.rounding import rounded, rounded_whole

# Scaled by more than this, the least number overflows and the greatest comes below the least.
FAR = 40000


def scaled(a, b, r):
    if b.kind == INFINITE:
        return scaled_without_end(a, b)
    if a.kind in (ZERO, INFINITE):
        return [a.bits, 0]
    return rounded(a.sign, a.significand, a.power + places_to_scale(b), DIGITS, r)


def scaled_without_end(a, b):
    impossible = INFINITE if b.sign else ZERO
    if a.kind == impossible:
        return [EMPTY, INVALID]
    return [zero_bits(a.sign) if b.sign else infinite_bits(a.sign), 0]


def places_to_scale(b):
    """b cut to a whole number, but not farther than FAR: beyond it all results are alike."""
    places = min(shifted(b.significand, b.power), FAR)
    return -places if b.sign else places


def extracted(a):
    if a.kind == ZERO:
        return [infinite_bits(1), a.bits, DIVIDED_BY_ZERO]
    if a.kind == INFINITE:
        return [infinite_bits(0), a.bits, 0]
    exponent = exponent_of(a)
    exponent_sign = 1 if exponent < 0 else 0
    other = finite_bits(a.sign, a.significand, a.power - exponent)
    return [finite_bits(exponent_sign, abs(exponent), 0), other, 0]


def rounded_to_whole(a, r):
    if a.kind in (ZERO, INFINITE):
        return [a.bits, 0]
    came = rounded_whole(a.sign, a.significand, a.power, r)
    return [finite_bits(a.sign, came[0], 0), came[1]]
