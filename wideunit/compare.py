"""com, ucom and xam: the bits that tell how numbers lie to one another and what a number is."""

from wideunit.codes import INVALID
from wideunit.floats import INFINITE, LOUD, NORMAL, ODD, QUIET, ZERO
from wideunit.floats import bits_by_value, is_no_number, without_sign
from wideunit.operands import with_small_told

ABOVE = 0
BELOW = 1
EQUAL = 8
NOT_ORDERED = 13

SIGN_BITS = 2


def compared(a, b):
    if is_no_number(a) or is_no_number(b):
        return [NOT_ORDERED, INVALID]
    return with_small_told([order_bits(rank(a), rank(b)), 0], [a, b])


def compared_quietly(a, b):
    told = compared(a, b)
    if told[0] == NOT_ORDERED and LOUD not in (a.kind, b.kind) and ODD not in (a.kind, b.kind):
        return [NOT_ORDERED, 0]
    return told


def rank(number):
    """A whole number that grows with the value: told by value, bits without a sign do."""
    size = without_sign(bits_by_value(number))
    return -size if number.sign else size


def order_bits(first, second):
    if first == second:
        return EQUAL
    return ABOVE if first > second else BELOW


def examined(a):
    return kind_bits(a.kind) + SIGN_BITS * a.sign


def kind_bits(kind):
    if kind == ODD:
        return 0
    if kind in (QUIET, LOUD):
        return 1
    if kind == NORMAL:
        return 4
    if kind == INFINITE:
        return 5
    if kind == ZERO:
        return 8
    return 12
