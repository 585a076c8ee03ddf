"""prem and prem1 of operands that are no quiet, loud or odd ones: the result, the bits, the flags."""

from wideunit.codes import INVALID
from wideunit.floats import EMPTY, INFINITE, ZERO, bits_by_value, exponent_of, finite_bits

UNFINISHED = 4


def remainder(a, b, to_nearest):
    if a.kind == INFINITE or b.kind == ZERO:
        return [EMPTY, 0, INVALID]
    if b.kind == INFINITE or a.kind == ZERO:
        return [bits_by_value(a), 0, 0]
    distance = exponent_of(a) - exponent_of(b)
    if distance < 64:
        return finished_remainder(a, b, to_nearest)
    return partial_remainder(a, b, distance)


def finished_remainder(a, b, to_nearest):
    power = min(a.power, b.power)
    dividend = a.significand << (a.power - power)
    divisor = b.significand << (b.power - power)
    quotient = dividend // divisor
    rest = dividend % divisor
    if to_nearest and rounds_to_next(quotient, rest, divisor):
        quotient = quotient + 1
        rest = rest - divisor
    sign = 1 - a.sign if rest < 0 else a.sign
    return [finite_bits(sign, abs(rest), power), quotient_bits(quotient), 0]


def rounds_to_next(quotient, rest, divisor):
    return 2 * rest > divisor or (2 * rest == divisor and quotient % 2 == 1)


def quotient_bits(quotient):
    """The quotient's bits 0, 1 and 2 where the unit tells them."""
    return (quotient & 1) * 2 + ((quotient >> 1) & 1) * 8 + ((quotient >> 2) & 1)


def partial_remainder(a, b, distance):
    """Less the multiples of b 2^(distance - N) alone: what is left lies nearer to b by N or more powers of two."""
    divisor_power = b.power + distance - (32 + distance % 32)
    power = min(a.power, divisor_power)
    dividend = a.significand << (a.power - power)
    divisor = b.significand << (divisor_power - power)
    return [finite_bits(a.sign, dividend % divisor, power), UNFINISHED, 0]
