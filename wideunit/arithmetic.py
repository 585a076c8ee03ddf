"""add, sub, mul, div and sqrt of operands that are no quiet, loud or odd ones: the result and its flags."""

from wideunit.codes import DIVIDED_BY_ZERO, DOWN, INVALID
from wideunit.floats import EMPTY, INFINITE, ZERO, Number, infinite_bits, turned, zero_bits
from wideunit.rounding import rounded

# Enough for a quotient or a root of more than 64 digits, even of the least significand there is.
EXTRA_PLACES = 136


def added(a, b, q, r):
    if INFINITE in (a.kind, b.kind):
        return added_infinite(a, b)
    power = min(a.power, b.power)
    total = signed_size(a, power) + signed_size(b, power)
    if total == 0:
        return [zero_bits(sign_of_zero_sum(a, b, r)), 0]
    sign = 1 if total < 0 else 0
    return rounded(sign, abs(total), power, q, r)


def subtracted(a, b, q, r):
    return added(a, Number(turned(b.bits)), q, r)


def added_infinite(a, b):
    if a.kind == b.kind and a.sign != b.sign:
        return [EMPTY, INVALID]
    return [a.bits if a.kind == INFINITE else b.bits, 0]


def signed_size(number, power):
    size = number.significand << (number.power - power)
    return -size if number.sign else size


def sign_of_zero_sum(a, b, r):
    # Of numbers of one sign, only two zeros add up to 0.
    if a.sign == b.sign:
        return a.sign
    return 1 if r == DOWN else 0


def multiplied(a, b, q, r):
    kinds = (a.kind, b.kind)
    sign = a.sign ^ b.sign
    if INFINITE in kinds and ZERO in kinds:
        return [EMPTY, INVALID]
    if INFINITE in kinds:
        return [infinite_bits(sign), 0]
    if ZERO in kinds:
        return [zero_bits(sign), 0]
    return rounded(sign, a.significand * b.significand, a.power + b.power, q, r)


def divided(a, b, q, r):
    sign = a.sign ^ b.sign
    if a.kind == b.kind and a.kind in (ZERO, INFINITE):
        return [EMPTY, INVALID]
    if a.kind == INFINITE:
        return [infinite_bits(sign), 0]
    if b.kind == ZERO:
        return [infinite_bits(sign), DIVIDED_BY_ZERO]
    if a.kind == ZERO or b.kind == INFINITE:
        return [zero_bits(sign), 0]
    dividend = a.significand << EXTRA_PLACES
    quotient = with_rest_marked(dividend // b.significand, dividend % b.significand)
    return rounded(sign, quotient, a.power - EXTRA_PLACES - b.power - 1, q, r)


def with_rest_marked(whole, rest):
    """whole with one digit more, that says if there is a rest.

    The digit stands below half of the last digit that is kept, so the value
    is rounded, and found exact or not, just as with the rest itself.
    """
    return 2 * whole + (1 if rest else 0)


def square_root(a, q, r):
    if a.kind == ZERO:
        return [a.bits, 0]
    if a.sign == 1:
        return [EMPTY, INVALID]
    if a.kind == INFINITE:
        return [a.bits, 0]
    # Only an even power of two has a whole power for its root.
    places = EXTRA_PLACES + a.power % 2
    radicand = a.significand << places
    whole = whole_root(radicand)
    root = with_rest_marked(whole, radicand - whole * whole)
    return rounded(0, root, (a.power - places) // 2 - 1, q, r)


def whole_root(radicand):
    """The greatest whole number whose square isn't above the radicand, which isn't 0."""
    # From above the root, the steps only fall until they are there.
    guess = 1 << ((radicand.bit_length() + 1) // 2)
    better = (guess + radicand // guess) // 2
    while better < guess:
        guess = better
        better = (guess + radicand // guess) // 2
    return guess
