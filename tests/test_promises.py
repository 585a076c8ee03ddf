"""U1 to U7 and the one sentence, over the whole program and many operands."""

import math
import operator
import struct
import unittest
from fractions import Fraction

from tests.support import (
    ABS, ADD, ALL, BY_ZERO, CHS, COM, CONSTANTS, CUT, DIV, DOUBLE, DOWN, EMPTY, EXTRACT, FORMATS, GREATEST, HIGH,
    INEXACT, INVALID, LEAST, LEAST_NORMAL, LOUD, MINUS_INF, MINUS_ZERO, MUL, NARROW, NEAR, NEARLY_SMALL, NOT_PACKED,
    ODD_ONES, ONE, OVERFLOW, PLUS_INF, PLUS_ZERO, PRECISIONS, PREM, PREM1, QUIET, RINT, ROUNDINGS, SCALE, SINGLE, SQRT,
    SUB, SMALL_IN, TST, UCOM, UNDERFLOW, UP, UPPED, WIDTHS, Stream, ext, floats_bits, kind, minus, narrow_kind,
    narrow_value, power_of_two, value)
from wideunit.unit import constant, load, loadp, loadw, one, store, storep, storew, two

TURNED_ROUNDING = (0, 2, 1, 3)
ALL_KINDS = (PLUS_ZERO, LEAST, NEARLY_SMALL, ONE, GREATEST, PLUS_INF, QUIET, LOUD, ODD_ONES[0], ODD_ONES[4])
BOTH_SIGNS = ALL_KINDS + tuple(minus(a) for a in ALL_KINDS)
FINITE = ("zero", "small", "nearly small", "normal")


def pairs(seed, many):
    stream = Stream(seed)
    for number in range(many):
        if number % 3 == 0:
            yield stream.finite(), stream.finite()
        elif number % 3 == 1:
            yield stream.finite(0x3FE0, 0x4020), stream.finite(0x3FE0, 0x4020)
        else:
            yield stream.finite(0, 80), stream.finite(0, 80)


class RoundedOnce(unittest.TestCase):
    """U1: between the result and the exact value no other float of as many digits lies."""

    EXACT = {ADD: lambda x, y: x + y, SUB: lambda x, y: x - y, MUL: lambda x, y: x * y, DIV: lambda x, y: x / y}

    def step(self, x, q):
        """How far apart the floats of q digits lie round x."""
        e = -20000
        if x:
            size = abs(x)
            e = size.numerator.bit_length() - size.denominator.bit_length()
            e = e if size >= power_of_two(e) else e - 1
        return power_of_two(max(e, -16382) - q + 1)

    def assert_nearest(self, x, told, q, r):
        came, flags = told[1:]
        if kind(came) not in FINITE:
            self.assertEqual(flags & (OVERFLOW | INEXACT | UPPED), OVERFLOW | INEXACT | UPPED)
            self.assertGreaterEqual(abs(x), value(GREATEST) * Fraction((1 << 24) - 1, 1 << 24))
            return
        result = value(came)
        if not flags & OVERFLOW:
            step = self.step(x, q)
            self.assertEqual((result / step).denominator, 1)
            off = result - x
            self.assertLess(abs(off), step)
            self.assertTrue(r != 0 or 2 * abs(off) <= step)
            self.assertTrue(r != 1 or off <= 0)
            self.assertTrue(r != 2 or off >= 0)
            self.assertTrue(r != 3 or abs(result) <= abs(x))
        self.assertEqual(bool(flags & INEXACT), result != x)
        self.assertEqual(bool(flags & UPPED), abs(result) > abs(x))
        if flags & UNDERFLOW:
            self.assertTrue(flags & INEXACT)
            self.assertLess(abs(x), power_of_two(-16382))

    def test_add_sub_mul_div(self):
        for a, b in pairs(21, 300):
            for op, exact in self.EXACT.items():
                if op == DIV and value(b) == 0:
                    continue
                x = exact(value(a), value(b))
                for q in PRECISIONS:
                    for r in ROUNDINGS:
                        self.assert_nearest(x, two(op, q, r, a, b), q, r)

    def test_roots_by_their_squares(self):
        for a, b in pairs(22, 200):
            a &= (1 << 79) - 1
            if value(a) == 0:
                continue
            for q in PRECISIONS:
                low, high = (value(one(SQRT, q, r, a)[1]) for r in (1, 2))
                self.assertTrue(low * low <= value(a) <= high * high)
                self.assertIn(high - low, (0, self.step(low, q)))
                self.assertEqual(one(SQRT, q, 3, a), one(SQRT, q, 1, a))
                near = value(one(SQRT, q, 0, a)[1])
                middle = (low + high) / 2
                self.assertEqual(near, low if low == high or value(a) < middle * middle else high)
                inexact = [one(SQRT, q, r, a)[2] & INEXACT for r in ROUNDINGS]
                self.assertEqual(inexact, [0 if low * low == value(a) else INEXACT] * 4)


class StoredOnce(unittest.TestCase):
    """U1, of what is given out."""

    def assert_lies_right(self, came, x, step, r):
        off = came - x
        self.assertEqual((came / step).denominator, 1)
        self.assertLess(abs(off), step)
        self.assertTrue(r != NEAR or 2 * abs(off) <= step)
        self.assertTrue(r != NEAR or 2 * abs(off) < step or int(came / step) % 2 == 0)
        self.assertTrue(r != DOWN or off <= 0)
        self.assertTrue(r != UP or off >= 0)
        self.assertTrue(r != CUT or abs(came) <= abs(x))

    def numbers(self, seed, many, least, most):
        stream = Stream(seed)
        for number in range(many):
            a = stream.finite(least, most)
            # Every second one with few digits, so that many lie just in the middle.
            yield a >> 38 << 38 if number % 2 else a

    def test_single_and_double(self):
        for f in NARROW:
            p, emin, emax = FORMATS[f][:3]
            for a in self.numbers(71, 400, 16383 + emin - p - 3, 16383 + emax - 1):
                x = value(a)
                e = max(abs(x).numerator.bit_length() - abs(x).denominator.bit_length(), emin)
                e = e if e == emin or abs(x) >= power_of_two(e) else e - 1
                for r in ROUNDINGS:
                    bits, flags = store(f, r, a)[1:]
                    came = narrow_value(f, bits)
                    self.assertIn(narrow_kind(f, bits), ("zero", "small", "normal"))
                    self.assert_lies_right(came, x, power_of_two(e - p + 1), r)
                    self.assertEqual(bool(flags & INEXACT), came != x)
                    self.assertEqual(bool(flags & UPPED), abs(came) > abs(x))
                    self.assertEqual(bits >> FORMATS[f][3] - 1, a >> 79)
                    if flags & UNDERFLOW:
                        self.assertLess(abs(x), power_of_two(emin))

    def test_whole_and_packed(self):
        for a in self.numbers(72, 800, 0x3FFA, 0x3FFF + 58):
            x = value(a)
            for r in ROUNDINGS:
                whole, flags = storew(64, r, a)[1:]
                self.assert_lies_right(Fraction(whole), x, Fraction(1), r)
                asked = (INEXACT if whole != x else 0) + (UPPED if abs(whole) > abs(x) else 0)
                self.assertEqual(flags, asked)
                told = storep(r, a)
                self.assertEqual(loadp(told[1:11]), [0, one(RINT, 64, r, a)[1]])
                self.assertEqual(told[11], flags)
                self.assertEqual(one(RINT, 64, r, a)[2], flags)
                if whole:
                    self.assertEqual(loadw(whole), [0, one(RINT, 64, r, a)[1]])

    def test_what_is_loaded_is_exact(self):
        stream = Stream(73)
        for f in NARROW:
            for _ in range(500):
                x = stream.bits(FORMATS[f][3])
                if narrow_kind(f, x) in ("zero", "small", "normal"):
                    self.assertEqual(value(load(f, x)[1]), narrow_value(f, x))


class AsPythonsDoubles(unittest.TestCase):
    """MAIN: loaded, reckoned to 53 digits and stored again, doubles come as Python's own do."""

    WAYS = {ADD: operator.add, SUB: operator.sub, MUL: operator.mul, DIV: operator.truediv}

    def bits_of(self, held):
        return struct.unpack(">Q", struct.pack(">d", held))[0]

    def test_four_operations_and_roots(self):
        stream = Stream(74)
        for _ in range(1500):
            x, y = (float(value(stream.finite(0x3E80, 0x4180))) for _ in range(2))
            a, b = (load(DOUBLE, self.bits_of(held))[1] for held in (x, y))
            for op, way in self.WAYS.items():
                came = two(op, 53, NEAR, a, b)[1]
                self.assertEqual(store(DOUBLE, NEAR, came), [0, self.bits_of(way(x, y)), 0])
            root = one(SQRT, 53, NEAR, one(ABS, 53, NEAR, a)[1])[1]
            self.assertEqual(store(DOUBLE, NEAR, root), [0, self.bits_of(math.sqrt(abs(x))), 0])
            self.assertEqual(two(COM, 64, NEAR, a, b)[1], 0 if x > y else 1 if x < y else 8)
            self.assertEqual(store(DOUBLE, NEAR, one(RINT, 64, NEAR, a)[1])[1], self.bits_of(rounded_as_held(x)))


def rounded_as_held(x):
    """x rounded to the nearest whole number, with its sign kept."""
    return math.copysign(float(round(x)), x)


class FlagsAlone(unittest.TestCase):
    """U2: with 1 or 4 there's no other; overflow and underflow come with inexact; up comes with inexact."""

    def test_every_pair(self):
        for a in BOTH_SIGNS:
            for b in BOTH_SIGNS:
                for op in (ADD, SUB, MUL, DIV, SCALE):
                    for r in ROUNDINGS:
                        self.assert_well_formed(two(op, 64, r, a, b)[2])

    def assert_well_formed(self, flags):
        self.assertEqual(flags & ~(1 | 2 | 4 | 8 | 16 | 32 | 128), 0)
        if flags & (INVALID | BY_ZERO):
            self.assertIn(flags, (INVALID, BY_ZERO))
        if flags & (OVERFLOW | UNDERFLOW | UPPED):
            self.assertTrue(flags & INEXACT)
        self.assertNotEqual(flags & (OVERFLOW | UNDERFLOW), OVERFLOW | UNDERFLOW)

    def test_each_by_itself(self):
        self.assertEqual(two(SUB, 64, 0, PLUS_INF, PLUS_INF)[2], INVALID)
        self.assertEqual(two(ADD, 64, 0, LEAST, LEAST)[2], SMALL_IN)
        self.assertEqual(two(DIV, 64, 0, ONE, PLUS_ZERO)[2], BY_ZERO)
        self.assertEqual(two(ADD, 64, 3, GREATEST, GREATEST)[2], OVERFLOW + INEXACT)
        tiny = floats_bits(power_of_two(-9000))
        self.assertEqual(two(MUL, 64, 0, tiny, tiny)[2], UNDERFLOW + INEXACT)
        self.assertEqual(two(ADD, 64, 0, ONE, tiny)[2], INEXACT)
        self.assertEqual(two(ADD, 64, 2, ONE, tiny)[2], INEXACT + UPPED)
        self.assertEqual(two(ADD, 64, 0, ONE, ONE)[2], 0)

    def test_what_is_given_out(self):
        for a in BOTH_SIGNS:
            for r in ROUNDINGS:
                told = [store(f, r, a)[2] for f in NARROW]
                told += [storew(n, r, a)[2] for n in WIDTHS] + [storep(r, a)[11]]
                for flags in told:
                    self.assert_well_formed(flags)
                    self.assertEqual(flags & (SMALL_IN | BY_ZERO), 0)

    def test_what_is_taken_in(self):
        flags_of = {"zero": 0, "small": SMALL_IN, "normal": 0, "infinite": 0, "quiet": 0, "loud": INVALID}
        stream = Stream(75)
        for f in NARROW:
            p, _, emax, width = FORMATS[f]
            for _ in range(400):
                exponent_bits = stream.pick((0, 0, 1, emax, 2 * emax, 2 * emax + 1, 2 * emax + 1))
                fraction = stream.bits(p - 1) * stream.bits(1)
                x = stream.bits(1) << width - 1 | exponent_bits << p - 1 | fraction
                self.assertEqual(load(f, x)[2], flags_of[narrow_kind(f, x)])

    def test_each_by_itself_when_given_out(self):
        self.assertEqual(store(SINGLE, NEAR, LOUD)[2], INVALID)
        self.assertEqual(store(SINGLE, NEAR, GREATEST)[2], OVERFLOW + INEXACT + UPPED)
        self.assertEqual(store(SINGLE, CUT, GREATEST)[2], OVERFLOW + INEXACT)
        self.assertEqual(store(SINGLE, NEAR, LEAST)[2], UNDERFLOW + INEXACT)
        self.assertEqual(store(SINGLE, UP, LEAST)[2], UNDERFLOW + INEXACT + UPPED)
        self.assertEqual(store(SINGLE, CUT, ext(0x3FFF, ALL))[2], INEXACT)
        self.assertEqual(store(SINGLE, NEAR, ext(0x3FFF, ALL))[2], INEXACT + UPPED)
        self.assertEqual(store(SINGLE, NEAR, QUIET)[2], 0)
        self.assertEqual(store(SINGLE, NEAR, ONE)[2], 0)


class NoNumbers(unittest.TestCase):
    """U2: which no number comes is told by bits."""

    def test_the_empty_one_of_every_invalid_operation(self):
        for r in ROUNDINGS:
            for q in PRECISIONS:
                for op, a, b in (
                        (ADD, PLUS_INF, MINUS_INF), (SUB, PLUS_INF, PLUS_INF), (MUL, MINUS_ZERO, PLUS_INF),
                        (DIV, PLUS_ZERO, MINUS_ZERO), (DIV, MINUS_INF, PLUS_INF), (SCALE, PLUS_ZERO, PLUS_INF),
                        (SCALE, PLUS_INF, MINUS_INF)):
                    self.assertEqual(two(op, q, r, a, b), [0, EMPTY, INVALID])
                for op in (PREM, PREM1):
                    self.assertEqual(two(op, q, r, PLUS_INF, ONE), [0, EMPTY, 0, INVALID])
                    self.assertEqual(two(op, q, r, ONE, PLUS_ZERO), [0, EMPTY, 0, INVALID])
                self.assertEqual(one(SQRT, q, r, MINUS_INF), [0, EMPTY, INVALID])

    def test_through_the_narrow_formats(self):
        payload = ext(0xFFFF, 0xC000010000000000)
        self.assertEqual(two(ADD, 64, 0, load(SINGLE, 0xFF800001)[1], ONE), [0, payload, 0])
        self.assertEqual(store(SINGLE, 0, payload), [0, 0xFFC00001, 0])
        self.assertEqual(store(DOUBLE, 0, payload), [0, 0xFFF8000020000000, 0])
        self.assertEqual(load(DOUBLE, 0xFFF8000020000000), [0, payload, 0])

    def test_what_has_no_room_for_them(self):
        for a in (QUIET, LOUD, EMPTY, PLUS_INF, MINUS_INF) + ODD_ONES:
            self.assertEqual(storew(16, 0, a), [0, -(1 << 15), INVALID])
            self.assertEqual(storep(0, a), [0, *NOT_PACKED, INVALID])


class Turned(unittest.TestCase):
    """U3."""

    def test_sum_and_product_either_way(self):
        for a in BOTH_SIGNS:
            for b in BOTH_SIGNS:
                self.assert_either_way(a, b)
        for a, b in pairs(23, 300):
            self.assert_either_way(a, b)

    def assert_either_way(self, a, b):
        for op in (ADD, MUL):
            for q, r in ((64, 0), (24, 1), (53, 2), (64, 3)):
                self.assertEqual(two(op, q, r, a, b), two(op, q, r, b, a))

    def test_turned_signs_turn_results(self):
        for a, b in pairs(24, 300):
            for q in PRECISIONS:
                for r in ROUNDINGS:
                    s = TURNED_ROUNDING[r]
                    self.assert_turned(two(ADD, q, r, a, b), two(ADD, q, s, minus(a), minus(b)))
                    self.assert_turned(two(SUB, q, r, a, b), two(SUB, q, s, b, a))
                    for op in (MUL, DIV):
                        self.assert_turned(two(op, q, r, a, b), two(op, q, s, minus(a), b))
                        self.assert_turned(two(op, q, r, a, b), two(op, q, s, a, minus(b)))
                    self.assert_turned(two(SCALE, q, r, a, b), two(SCALE, q, s, minus(a), b))
                    self.assert_turned(one(RINT, q, r, a), one(RINT, q, s, minus(a)))

    def assert_turned(self, told, turned):
        if told[2] & INVALID or (told[1] & (1 << 79) - 1 == 0 and turned[1] & (1 << 79) - 1 == 0):
            # The empty one has one sign; an exact zero's sign is told by itself.
            self.assertEqual(told[2], turned[2])
        else:
            self.assertEqual([told[0], minus(told[1]), told[2]], turned)

    def test_turned_signs_turn_what_is_given_out(self):
        stream = Stream(76)
        drawn = [stream.finite(0x3F60, 0x4090) for _ in range(300)] + [stream.finite() for _ in range(50)]
        for a in [PLUS_ZERO, LEAST, NEARLY_SMALL, LEAST_NORMAL, ONE, GREATEST, PLUS_INF, QUIET, LOUD, *drawn]:
            for r in ROUNDINGS:
                s = TURNED_ROUNDING[r]
                for f in NARROW:
                    bits, flags = store(f, r, a)[1:]
                    self.assertEqual(store(f, s, minus(a)), [0, bits ^ 1 << FORMATS[f][3] - 1, flags])
                told = storep(r, a)
                if told[11] != INVALID:
                    told[10] ^= 0x80
                self.assertEqual(storep(s, minus(a)), told)
                for n in WIDTHS:
                    whole, flags = storew(n, r, a)[1:]
                    # The lowest whole number has no turned one.
                    if flags != INVALID and whole != -(1 << n - 1):
                        self.assertEqual(storew(n, s, minus(a)), [0, -whole, flags])

    def test_turned_signs_turn_what_is_taken_in(self):
        stream = Stream(77)
        for _ in range(300):
            for f in NARROW:
                x = stream.bits(FORMATS[f][3])
                bits, flags = load(f, x)[1:]
                self.assertEqual(load(f, x ^ 1 << FORMATS[f][3] - 1), [0, minus(bits), flags])
            z = stream.bits(63) + 1
            if z < 1 << 63:
                self.assertEqual(loadw(-z), [0, minus(loadw(z)[1])])
            digits = [stream.below(10) | stream.below(10) << 4 for _ in range(9)]
            self.assertEqual(loadp(digits + [0x80]), [0, minus(loadp(digits + [0])[1])])

    def test_sub_is_add_of_the_turned_one(self):
        for a, b in pairs(25, 200):
            for q, r in ((64, 0), (24, 1), (53, 2), (64, 3)):
                self.assertEqual(two(SUB, q, r, a, b), two(ADD, q, r, a, one(CHS, q, r, b)[1]))


class ExactRemainder(unittest.TestCase):
    """U4."""

    def test_a_less_the_rest_is_a_whole_multiple(self):
        for a, b in pairs(26, 300):
            if value(a) == 0 or value(b) == 0:
                continue
            told = two(PREM, 64, 0, a, b)
            rest = value(told[1])
            self.assertEqual(((value(a) - rest) / value(b)).denominator, 1)
            self.assertEqual(told[3] & ~SMALL_IN, 0)
            if told[2] != 4:
                self.assertLess(abs(rest), abs(value(b)))
            self.assertEqual(told[1] >> 79, a >> 79)

    def test_done_again_until_its_bit_four_is_off(self):
        stream = Stream(78)
        for number in range(30):
            a, b = stream.finite(0x4060 + 8 * number, 0x4080 + 8 * number), stream.finite(0x3FF0, 0x4010)
            rest, bits = a, 4
            while bits & 4:
                rest, bits, flags = two(PREM, 64, 0, rest, b)[1:]
                self.assertEqual(flags, 0)
            self.assertEqual(abs(value(rest)), abs(value(a)) % abs(value(b)))
            self.assertEqual(rest >> 79, a >> 79)


class Undone(unittest.TestCase):
    """U5."""

    def test_extract_then_scale(self):
        for a, b in pairs(27, 300):
            if value(a) == 0:
                continue
            e, m, flags = one(EXTRACT, 64, 0, a)[1:]
            self.assertTrue(1 <= abs(value(m)) < 2)
            for r in ROUNDINGS:
                self.assertEqual(two(SCALE, 64, r, m, e), [0, floats_bits(value(a)), 0])

    def test_scale_then_extract(self):
        stream = Stream(28)
        for _ in range(300):
            m = stream.finite(0x3FFF, 0x3FFF)
            n = floats_bits(stream.below(32766) - 16382)
            scaled = two(SCALE, 64, 0, m, n)
            self.assertEqual(scaled[2], 0)
            self.assertEqual(one(EXTRACT, 64, 0, scaled[1]), [0, n, m, 0])

    def test_infinite_ones(self):
        for inf in (PLUS_INF, MINUS_INF):
            e, m = one(EXTRACT, 64, 0, inf)[1:3]
            self.assertEqual(two(SCALE, 64, 0, m, e), [0, inf, 0])

    def test_zeros(self):
        for zero in (PLUS_ZERO, MINUS_ZERO):
            e, m = one(EXTRACT, 64, 0, zero)[1:3]
            self.assertEqual(two(SCALE, 64, 0, m, e), [0, zero, 0])


class LoadedAndStored(unittest.TestCase):
    """U6, of what the constants and results are: stored with as many digits as they have, they load as they were."""

    def test_constants_to_the_digits_that_are_stored(self):
        for k in CONSTANTS:
            for r in ROUNDINGS:
                number = constant(k, r)[1]
                for f in NARROW:
                    bits = store(f, r, number)[1]
                    self.assertEqual(store(f, r, load(f, bits)[1]), [0, bits, 0])

    def test_results_to_as_many_digits(self):
        for a, b in pairs(79, 300):
            for f in NARROW:
                came = two(MUL, FORMATS[f][0], 0, a, b)[1]
                bits, flags = store(f, 0, came)[1:]
                if flags == 0:
                    self.assertEqual(load(f, bits)[1], came)

    def test_whole_and_packed_are_one_number(self):
        stream = Stream(80)
        for _ in range(300):
            z = stream.bits(1 + stream.below(59)) * stream.pick((1, -1))
            number = loadw(z)[1]
            told = storep(0, number)
            self.assertEqual(loadp(told[1:11]), [0, number])
            self.assertEqual(storew(64, 0, loadp(told[1:11])[1]), [0, z, 0])


class ComparedByValues(unittest.TestCase):
    """U7."""

    def test_as_the_difference(self):
        bits_of = {1: 0, -1: 1, 0: 8}
        for a, b in pairs(29, 400):
            x, y = value(a), value(b)
            self.assertEqual(two(COM, 64, 0, a, b)[1], bits_of[(x > y) - (x < y)])
            self.assertEqual(two(COM, 64, 0, b, a)[1], bits_of[(x < y) - (x > y)])
            self.assertEqual(two(COM, 64, 0, a, a)[1], 8)
            self.assertEqual(two(UCOM, 64, 0, a, b), two(COM, 64, 0, a, b))
            self.assertEqual(one(TST, 64, 0, a), two(COM, 64, 0, a, PLUS_ZERO))

    def test_one_value_by_several_bits(self):
        self.assertEqual(two(COM, 64, 0, PLUS_ZERO, MINUS_ZERO), [0, 8, 0])
        self.assertEqual(two(COM, 64, 0, NEARLY_SMALL, LEAST_NORMAL), [0, 8, SMALL_IN])
        self.assertEqual(two(COM, 64, 0, ext(0x8000, HIGH + 5), ext(0x8001, HIGH + 5)), [0, 8, SMALL_IN])
        self.assertEqual(two(COM, 64, 0, loadw(3)[1], load(SINGLE, 0x40400000)[1]), [0, 8, 0])


if __name__ == "__main__":
    unittest.main()
