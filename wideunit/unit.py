"""The calls of the unit: each answers a list, 0 and what is told, or a refusal alone."""

from wideunit.arithmetic import added, divided, multiplied, square_root, subtracted
from wideunit.compare import compared, compared_quietly, examined
from wideunit.constants import constant_bits
from wideunit.floats import Number, turned, without_sign, zero_bits
from wideunit.formats import extended_format, narrow_format, too_many_bits
from wideunit.loading import loaded_narrow, loaded_whole, whole_is_too_far
from wideunit.operands import no_number_told, with_small_told
from wideunit.packing import has_wrong_digit, loaded_packed, stored_packed
from wideunit.powers import extracted, rounded_to_whole, scaled
from wideunit.remainder import remainder
from wideunit.storing import stored_narrow, stored_whole

BEYOND = -1
WRONG_DIGIT = -2

ADD = 0
SUB = 1
MUL = 2
DIV = 3
PREM = 4
PREM1 = 5
SCALE = 6
COM = 7
UCOM = 8

SQRT = 0
RINT = 1
ABS = 2
CHS = 3
EXTRACT = 4
TST = 5
XAM = 6


def too_wide(bits):
    return too_many_bits(extended_format(), bits)


def two(op, q, r, a, b):
    """add, sub, mul, div, prem, prem1, scale, com or ucom, by op from 0 on, of the bits a and b."""
    if too_wide(a) or too_wide(b):
        return [BEYOND]
    return [0] + told_of_two(op, q, r, Number(a), Number(b))


def told_of_two(op, q, r, a, b):
    if op == COM:
        return compared(a, b)
    if op == UCOM:
        return compared_quietly(a, b)
    came = no_number_told([a, b])
    if came is None:
        return with_small_told(result_of_two(op, q, r, a, b), [a, b])
    if op in (PREM, PREM1):
        return [came[0], 0, came[1]]
    return came


def result_of_two(op, q, r, a, b):
    if op == ADD:
        return added(a, b, q, r)
    if op == SUB:
        return subtracted(a, b, q, r)
    if op == MUL:
        return multiplied(a, b, q, r)
    if op == DIV:
        return divided(a, b, q, r)
    if op == SCALE:
        return scaled(a, b, r)
    return remainder(a, b, op == PREM1)


def one(op, q, r, a):
    """sqrt, rint, abs, chs, extract, tst or xam, by op from 0 on, of the bits a."""
    if too_wide(a):
        return [BEYOND]
    return [0] + told_of_one(op, q, r, Number(a))


def told_of_one(op, q, r, a):
    if op == ABS:
        return [without_sign(a.bits), 0]
    if op == CHS:
        return [turned(a.bits), 0]
    if op == TST:
        return compared(a, Number(zero_bits(0)))
    if op == XAM:
        return [examined(a), 0]
    came = no_number_told([a])
    if came is None:
        return with_small_told(result_of_one(op, q, r, a), [a])
    if op == EXTRACT:
        return [came[0], came[0], came[1]]
    return came


def result_of_one(op, q, r, a):
    if op == SQRT:
        return square_root(a, q, r)
    if op == RINT:
        return rounded_to_whole(a, r)
    return extracted(a)


def load(f, x):
    """The number of a single one's (f 1) or a double one's (f 2) bits x."""
    form = narrow_format(f)
    if too_many_bits(form, x):
        return [BEYOND]
    return [0] + loaded_narrow(form, x)


def loadw(z):
    """The number of a whole number."""
    if whole_is_too_far(z):
        return [BEYOND]
    return [0, loaded_whole(z)]


def loadp(packed):
    """The number of ten bytes of packed decimal digits."""
    if has_wrong_digit(packed):
        return [WRONG_DIGIT]
    return [0, loaded_packed(packed)]


def store(f, r, a):
    """The bits a as those of a single one (f 1) or a double one (f 2)."""
    if too_wide(a):
        return [BEYOND]
    return [0] + stored_narrow(narrow_format(f), r, Number(a))


def storew(n, r, a):
    """The bits a as a whole number of n digits of two, 16, 32 or 64, one of them for the sign."""
    if too_wide(a):
        return [BEYOND]
    return [0] + stored_whole(n, r, Number(a))


def storep(r, a):
    """The bits a as ten bytes of packed decimal digits."""
    if too_wide(a):
        return [BEYOND]
    return [0] + stored_packed(r, Number(a))


def constant(k, r):
    """1, the logarithms of 10 and e to 2, pi, the logarithms of 2 to 10 and e, plus zero, by k from 0 on."""
    return [0, constant_bits(k, r)]
