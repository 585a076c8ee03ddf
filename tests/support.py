"""What the tests share: floats written down, and the document's sentences told a second time, by fractions.

Nothing here draws from the package: what is expected is worked out apart from it.
"""

from fractions import Fraction
from functools import lru_cache
from math import floor, isqrt

NEAR, DOWN, UP, CUT = ROUNDINGS = (0, 1, 2, 3)
PRECISIONS = (24, 53, 64)
ADD, SUB, MUL, DIV, PREM, PREM1, SCALE, COM, UCOM = TWO_OPS = tuple(range(9))
SQRT, RINT, ABS, CHS, EXTRACT, TST, XAM = ONE_OPS = tuple(range(7))

INVALID, SMALL_IN, BY_ZERO, OVERFLOW, UNDERFLOW, INEXACT, UPPED = 1, 2, 4, 8, 16, 32, 128

MINUS = 1 << 79
HIGH = 1 << 63
ALL = (1 << 64) - 1
EMIN, EMAX = -16382, 16383


def ext(sign_and_exponent, significand):
    """The bits, written as the document's examples are."""
    return sign_and_exponent << 64 | significand


PLUS_ZERO = ext(0x0000, 0)
MINUS_ZERO = ext(0x8000, 0)
PLUS_INF = ext(0x7FFF, HIGH)
MINUS_INF = ext(0xFFFF, HIGH)
EMPTY = ext(0xFFFF, 0xC000000000000000)
ONE = ext(0x3FFF, HIGH)
MINUS_ONE = ext(0xBFFF, HIGH)
LEAST = ext(0x0000, 1)
GREATEST_SMALL = ext(0x0000, HIGH - 1)
NEARLY_SMALL = ext(0x0000, HIGH)
LEAST_NORMAL = ext(0x0001, HIGH)
GREATEST = ext(0x7FFE, ALL)
QUIET = ext(0x7FFF, 0xC000000000000123)
LOUD = ext(0x7FFF, 0x8000000000000123)

ODD_ONES = (
    ext(0x7FFF, 0),
    ext(0x7FFF, 1),
    ext(0x7FFF, HIGH - 1),
    ext(0x3FFF, 0),
    ext(0x3FFF, HIGH - 1),
    ext(0x0001, 1),
    ext(0x7FFE, 0x4000000000000000),
)
MOST = 79228162514264337593543950335
TOO_MANY = (1 << 80, (1 << 80) + ONE, MOST)

WIDTHS = (16, 32, 64)
CONSTANTS = tuple(range(7))
NOT_PACKED = [0, 0, 0, 0, 0, 0, 0, 0xC0, 0xFF, 0xFF]

SINGLE, DOUBLE = NARROW = (1, 2)
# By format: the digits, the least and the greatest exponent, how many bits there are in all.
FORMATS = {SINGLE: (24, -126, 127, 32), DOUBLE: (53, -1022, 1023, 64)}


def minus(bits):
    return bits ^ MINUS


def power_of_two(e):
    return Fraction(1 << e) if e >= 0 else Fraction(1, 1 << -e)


@lru_cache(maxsize=None)
def exponent(x):
    """The e with 2^e <= |x| < 2^(e + 1)."""
    x = abs(x)
    e = x.numerator.bit_length() - x.denominator.bit_length()
    return e if x >= power_of_two(e) else e - 1


@lru_cache(maxsize=None)
def kind(bits):
    exponent_bits, significand = bits >> 64 & 0x7FFF, bits & ALL
    if exponent_bits == 0:
        return "zero" if significand == 0 else "small" if significand < HIGH else "nearly small"
    if significand < HIGH:
        return "odd"
    if exponent_bits < 0x7FFF:
        return "normal"
    if significand == HIGH:
        return "infinite"
    return "quiet" if significand >> 62 & 1 else "loud"


def sign(bits):
    return bits >> 79


@lru_cache(maxsize=None)
def value(bits):
    """The value of a finite one."""
    assert kind(bits) in ("zero", "small", "nearly small", "normal")
    size = (bits & ALL) * power_of_two(max(bits >> 64 & 0x7FFF, 1) + EMIN - 64)
    return -size if sign(bits) else size


@lru_cache(maxsize=None)
def floats_bits(x, sign_of_zero=0):
    """The bits of the float of the value x; there must be one."""
    x = Fraction(x)
    if x == 0:
        return sign_of_zero << 79
    e = max(exponent(x), EMIN)
    significand = abs(x) / power_of_two(e - 63)
    assert significand.denominator == 1 and significand < 1 << 64 and e <= EMAX
    exponent_bits = e + 16383 if significand >= HIGH else 0
    return (x < 0) << 79 | exponent_bits << 64 | int(significand)


def multiple(x, unit, r):
    """x rounded to a whole multiple of the unit."""
    times = x / unit
    low = floor(times)
    if low == times:
        return x
    if r == NEAR:
        over = times - low
        chosen = low if over < Fraction(1, 2) or (over == Fraction(1, 2) and low % 2 == 0) else low + 1
    elif r == DOWN:
        chosen = low
    elif r == UP:
        chosen = low + 1
    else:
        chosen = low if x > 0 else low + 1
    return chosen * unit


def up_flag(came, x):
    return UPPED if abs(came) > abs(x) else 0


def rounded_value(x, q, r, emin, emax):
    """The value and flags of an exact value that isn't 0; None for an infinite one."""
    y = multiple(x, power_of_two(exponent(x) - q + 1), r)
    if abs(y) >= power_of_two(emax + 1):
        if r == CUT or (r == DOWN and x > 0) or (r == UP and x < 0):
            size = ((1 << q) - 1) * power_of_two(emax - q + 1)
            return -size if x < 0 else size, OVERFLOW + INEXACT
        return None, OVERFLOW + INEXACT + UPPED
    if abs(y) < power_of_two(emin):
        came = multiple(x, power_of_two(emin - q + 1), r)
        flags = 0 if came == x else UNDERFLOW + INEXACT
    else:
        came = y
        flags = 0 if came == x else INEXACT
    return came, flags + up_flag(came, x)


@lru_cache(maxsize=200000)
def rounded(x, q, r):
    """The bits and flags of an exact value that isn't 0."""
    negative = 1 if x < 0 else 0
    came, flags = rounded_value(x, q, r, EMIN, EMAX)
    if came is None:
        return (MINUS_INF if negative else PLUS_INF), flags
    return floats_bits(came, negative), flags


def signed(bits, s):
    return bits & (MINUS - 1) | s << 79


def no_number(operands):
    """What comes of no numbers, or None."""
    kinds = [kind(x) for x in operands]
    if "odd" in kinds:
        return EMPTY, INVALID
    those = [x for x in operands if kind(x) in ("quiet", "loud")]
    if not those:
        return None
    flags = INVALID if "loud" in kinds else 0
    if sorted(kinds) == ["loud", "quiet"]:
        those = [x for x in those if kind(x) == "quiet"]
    greatest = max(x & ALL for x in those)
    those = [x for x in those if x & ALL == greatest]
    told = min(those, key=sign)
    return told | 1 << 62, flags


def with_small(operands, told):
    if told[-1] & (INVALID | BY_ZERO):
        return told
    small = any(kind(x) in ("small", "nearly small") for x in operands)
    return told[:-1] + [told[-1] + SMALL_IN * small]


def sum_told(q, r, a, b):
    if kind(a) == "infinite" or kind(b) == "infinite":
        if kind(a) == kind(b) and sign(a) != sign(b):
            return [EMPTY, INVALID]
        return [a if kind(a) == "infinite" else b, 0]
    x = value(a) + value(b)
    if x == 0:
        if kind(a) == kind(b) == "zero" and sign(a) == sign(b):
            return [a, 0]
        return [MINUS_ZERO if r == DOWN else PLUS_ZERO, 0]
    return list(rounded(x, q, r))


def product_told(q, r, a, b):
    kinds, s = {kind(a), kind(b)}, sign(a) ^ sign(b)
    if kinds == {"zero", "infinite"}:
        return [EMPTY, INVALID]
    if "infinite" in kinds:
        return [signed(PLUS_INF, s), 0]
    if "zero" in kinds:
        return [signed(PLUS_ZERO, s), 0]
    return list(rounded(value(a) * value(b), q, r))


def quotient_told(q, r, a, b):
    s = sign(a) ^ sign(b)
    pair = kind(a), kind(b)
    if pair in (("zero", "zero"), ("infinite", "infinite")):
        return [EMPTY, INVALID]
    if pair[0] == "infinite":
        return [signed(PLUS_INF, s), 0]
    if pair[1] == "zero":
        return [signed(PLUS_INF, s), BY_ZERO]
    if pair[0] == "zero" or pair[1] == "infinite":
        return [signed(PLUS_ZERO, s), 0]
    return list(rounded(value(a) / value(b), q, r))


def remainder_told(op, a, b):
    if kind(a) == "infinite" or kind(b) == "zero":
        return [EMPTY, 0, INVALID]
    if kind(b) == "infinite" or kind(a) == "zero":
        return [floats_bits(value(a), sign(a)), 0, 0]
    x, y = value(a), value(b)
    d = exponent(x) - exponent(y)
    quotient, bits, step = abs(x) / abs(y), None, Fraction(1)
    if d < 64:
        whole = round(quotient) if op == PREM1 else floor(quotient)
        bits = 2 * (whole & 1) + 8 * (whole >> 1 & 1) + (whole >> 2 & 1)
    else:
        step = power_of_two(d - (32 + d % 32))
        whole = floor(quotient / step)
        bits = 4
    turned = -1 if (x < 0) != (y < 0) else 1
    return [floats_bits(x - y * turned * whole * step, sign(a)), bits, 0]


def scaled_told(r, a, b):
    if kind(b) == "infinite":
        if kind(a) == ("infinite" if sign(b) else "zero"):
            return [EMPTY, INVALID]
        return [signed(PLUS_ZERO if sign(b) else PLUS_INF, sign(a)), 0]
    if kind(a) in ("zero", "infinite"):
        return [a, 0]
    n = int(value(b))
    n = max(-36000, min(36000, n))
    return list(rounded(value(a) * power_of_two(n), 64, r))


def compared_told(op, a, b):
    kinds = [kind(a), kind(b)]
    if any(k in ("quiet", "loud", "odd") for k in kinds):
        return [13, INVALID if op == COM or "loud" in kinds or "odd" in kinds else 0]
    x, y = [(-1 if sign(v) else 1) * power_of_two(20000) if kind(v) == "infinite" else value(v) for v in (a, b)]
    return with_small([a, b], [8 if x == y else 0 if x > y else 1, 0])


def told_by_two(op, q, r, a, b):
    """The whole answer that the document asks of two."""
    if a >= 1 << 80 or b >= 1 << 80:
        return [-1]
    if op in (COM, UCOM):
        return [0] + compared_told(op, a, b)
    came = no_number([a, b])
    if came:
        return [0, came[0], 0, came[1]] if op in (PREM, PREM1) else [0, *came]
    if op == ADD:
        told = sum_told(q, r, a, b)
    elif op == SUB:
        told = sum_told(q, r, a, minus(b))
    elif op == MUL:
        told = product_told(q, r, a, b)
    elif op == DIV:
        told = quotient_told(q, r, a, b)
    elif op == SCALE:
        told = scaled_told(r, a, b)
    else:
        told = remainder_told(op, a, b)
    return [0] + with_small([a, b], told)


@lru_cache(maxsize=None)
def root_with_more_digits(x):
    """A number that is rounded like the root of x: its first 200 digits, and a little more if there's a rest."""
    e = exponent(x) // 2 - 200
    scaled = x / power_of_two(2 * e)
    whole = isqrt(floor(scaled))
    rest = Fraction(0) if whole * whole == scaled else Fraction(1, 3)
    return (whole + rest) * power_of_two(e)


def root_told(q, r, a):
    if kind(a) == "zero" or a == PLUS_INF:
        return [a, 0]
    if sign(a):
        return [EMPTY, INVALID]
    return list(rounded(root_with_more_digits(value(a)), q, r))


def whole_told(r, a):
    """The whole number that a becomes and the flags; None if a isn't finite."""
    if kind(a) in ("infinite", "quiet", "loud", "odd"):
        return None
    x = value(a)
    came = multiple(x, Fraction(1), r)
    return int(came), 0 if came == x else INEXACT + up_flag(came, x)


def rint_told(r, a):
    if kind(a) in ("zero", "infinite"):
        return [a, 0]
    came, flags = whole_told(r, a)
    return [floats_bits(came, sign(a)), flags]


def extract_told(a):
    if kind(a) == "zero":
        return [MINUS_INF, a, BY_ZERO]
    if kind(a) == "infinite":
        return [PLUS_INF, a, 0]
    x = value(a)
    e = exponent(x)
    return [floats_bits(Fraction(e)), floats_bits(x / power_of_two(e)), 0]


XAM_BITS = {
    "odd": 0, "quiet": 1, "loud": 1, "normal": 4, "infinite": 5, "zero": 8, "small": 12, "nearly small": 12}


def told_by_one(op, q, r, a):
    """The whole answer that the document asks of one."""
    if a >= 1 << 80:
        return [-1]
    if op in (ABS, CHS):
        return [0, signed(a, 0) if op == ABS else minus(a), 0]
    if op == TST:
        return [0] + compared_told(COM, a, PLUS_ZERO)
    if op == XAM:
        return [0, XAM_BITS[kind(a)] + 2 * sign(a), 0]
    came = no_number([a])
    if came:
        return [0, came[0], *came] if op == EXTRACT else [0, *came]
    if op == SQRT:
        told = root_told(q, r, a)
    elif op == RINT:
        told = rint_told(r, a)
    else:
        told = extract_told(a)
    return [0] + with_small([a], told)


def narrow_parts(f, x):
    """The sign, the exponent bits and the fraction of a single or double one."""
    p, width = FORMATS[f][0], FORMATS[f][3]
    return x >> width - 1, x >> p - 1 & (1 << width - p) - 1, x & (1 << p - 1) - 1


def narrow_joined(f, s, exponent_bits, fraction):
    p, width = FORMATS[f][0], FORMATS[f][3]
    return s << width - 1 | exponent_bits << p - 1 | fraction


def narrow_kind(f, x):
    exponent_bits, fraction = narrow_parts(f, x)[1:]
    p, width = FORMATS[f][0], FORMATS[f][3]
    if exponent_bits == 0:
        return "small" if fraction else "zero"
    if exponent_bits < (1 << width - p) - 1:
        return "normal"
    if fraction == 0:
        return "infinite"
    return "quiet" if fraction >> p - 2 else "loud"


def narrow_value(f, x):
    s, exponent_bits, fraction = narrow_parts(f, x)
    p, emin = FORMATS[f][:2]
    m = fraction + (1 << p - 1 if exponent_bits else 0)
    size = m * power_of_two((exponent_bits or 1) + emin - p)
    return -size if s else size


def told_by_load(f, x):
    """The whole answer that the document asks of load."""
    p, width = FORMATS[f][0], FORMATS[f][3]
    if x >= 1 << width:
        return [-1]
    s, fraction = narrow_parts(f, x)[0], narrow_parts(f, x)[2]
    came = narrow_kind(f, x)
    if came == "infinite":
        return [0, signed(PLUS_INF, s), 0]
    if came in ("quiet", "loud"):
        bits = signed(PLUS_INF, s) | fraction << 64 - p | 1 << 62
        return [0, bits, INVALID if came == "loud" else 0]
    return [0, floats_bits(narrow_value(f, x), s), SMALL_IN if came == "small" else 0]


def told_by_loadw(z):
    """The whole answer that the document asks of loadw."""
    return [0, floats_bits(z)] if -(1 << 63) <= z <= (1 << 63) - 1 else [-1]


def told_by_loadp(packed):
    """The whole answer that the document asks of loadp."""
    text = bytes(packed[8::-1]).hex()
    if not text.isdecimal():
        return [-2]
    s = packed[9] >> 7
    return [0, floats_bits(-int(text) if s else int(text), s)]


def narrow_bits(f, x, s):
    """The bits of the single or double one of the value x; there must be one."""
    p, emin, emax = FORMATS[f][:3]
    if x == 0:
        return narrow_joined(f, s, 0, 0)
    e = max(exponent(x), emin)
    m = abs(x) / power_of_two(e - p + 1)
    assert m.denominator == 1 and m < 1 << p and e <= emax
    m = int(m)
    return narrow_joined(f, s, e + emax if m >> p - 1 else 0, m & (1 << p - 1) - 1)


def told_by_store(f, r, a):
    """The whole answer that the document asks of store."""
    if a >= 1 << 80:
        return [-1]
    p, emin, emax = FORMATS[f][:3]
    endless = narrow_joined(f, sign(a), 2 * emax + 1, 0)
    if kind(a) == "odd":
        return [0, narrow_joined(f, 1, 2 * emax + 1, 1 << p - 2), INVALID]
    if kind(a) in ("quiet", "loud"):
        fraction = (a & HIGH - 1) >> 64 - p | 1 << p - 2
        return [0, endless | fraction, INVALID if kind(a) == "loud" else 0]
    if kind(a) == "infinite":
        return [0, endless, 0]
    if kind(a) == "zero":
        return [0, narrow_joined(f, sign(a), 0, 0), 0]
    came, flags = rounded_value(value(a), p, r, emin, emax)
    return [0, endless if came is None else narrow_bits(f, came, sign(a)), flags]


def told_by_storew(n, r, a):
    """The whole answer that the document asks of storew."""
    if a >= 1 << 80:
        return [-1]
    came = whole_told(r, a)
    if came is None or not -(1 << n - 1) <= came[0] <= (1 << n - 1) - 1:
        return [0, -(1 << n - 1), INVALID]
    return [0, *came]


def told_by_storep(r, a):
    """The whole answer that the document asks of storep."""
    if a >= 1 << 80:
        return [-1]
    came = whole_told(r, a)
    if came is None or abs(came[0]) >= 10 ** 18:
        return [0, *NOT_PACKED, INVALID]
    return [0, *packed(abs(came[0]), sign(a)), came[1]]


def packed(size, s):
    """The ten bytes of a size and a sign."""
    return [*bytes.fromhex(f"{size:018d}")[::-1], 0x80 if s else 0]


def hexed(told):
    return [hex(x) for x in told]


class Stream:
    """Numbers that look drawn by lot but are the same each time, on every Python."""

    def __init__(self, seed):
        self.state = seed

    def bits(self, n):
        whole = 0
        for _ in range(0, n, 32):
            self.state = (self.state * 6364136223846793005 + 1442695040888963407) & ALL
            whole = whole << 32 | self.state >> 32
        return whole >> -n % 32

    def below(self, n):
        return self.bits(64) % n

    def pick(self, choices):
        return choices[self.below(len(choices))]

    def significand(self):
        """One with its highest bit set, often with long runs of alike digits."""
        shape = self.below(4)
        if shape == 0:
            return HIGH | self.bits(63)
        if shape == 1:
            return HIGH | self.bits(1 + self.below(62))
        if shape == 2:
            return ALL - (self.bits(63) >> self.below(63))
        return HIGH | self.bits(63) >> 40 << 40

    def finite(self, least=0, most=0x7FFE):
        """A finite one, its exponent bits from least to most."""
        exponent_bits = least + self.below(most - least + 1)
        significand = self.significand()
        if exponent_bits == 0 and self.below(3):
            significand = significand >> 1 + self.below(63)
        return ext(self.bits(1) << 15 | exponent_bits, significand)
