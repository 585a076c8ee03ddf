"""U1 to U5, U7 and the one sentence, as far as they are of two and one, over many operands."""

import unittest
from fractions import Fraction

from tests.support import (
    ADD, BY_ZERO, CHS, COM, DIV, EXTRACT, GREATEST, INEXACT, INVALID, LEAST, LOUD, MINUS_INF, MINUS_ZERO, MUL,
    NEARLY_SMALL, ODD_ONES, ONE, OVERFLOW, PLUS_INF, PLUS_ZERO, PRECISIONS, PREM, QUIET, RINT, ROUNDINGS, SCALE, SQRT,
    SUB, SMALL_IN, UNDERFLOW, UPPED, Stream, floats_bits, kind, minus, power_of_two, value)
from wideunit.unit import one, two

TURNED_ROUNDING = (0, 2, 1, 3)
ALL_KINDS = (PLUS_ZERO, LEAST, NEARLY_SMALL, ONE, GREATEST, PLUS_INF, QUIET, LOUD, ODD_ONES[0], ODD_ONES[4])
BOTH_SIGNS = ALL_KINDS + tuple(minus(a) for a in ALL_KINDS)
FINITE = ("zero", "small", "nearly small", "normal")


def pairs(seed, many):
    stream = Stream(seed)
    for number in range(many):
        if number % 3 == 0:
            yield stream.finite(), stream.finite()
        elif number % 3 == 1:
            yield stream.finite(0x3FE0, 0x4020), stream.finite(0x3FE0, 0x4020)
        else:
            yield stream.finite(0, 80), stream.finite(0, 80)


class RoundedOnce(unittest.TestCase):
    """U1: between the result and the exact value no other float of as many digits lies."""

    EXACT = {ADD: lambda x, y: x + y, SUB: lambda x, y: x - y, MUL: lambda x, y: x * y, DIV: lambda x, y: x / y}

    def step(self, x, q):
        """How far apart the floats of q digits lie round x."""
        e = -20000
        if x:
            size = abs(x)
            e = size.numerator.bit_length() - size.denominator.bit_length()
            e = e if size >= power_of_two(e) else e - 1
        return power_of_two(max(e, -16382) - q + 1)

    def assert_nearest(self, x, told, q, r):
        came, flags = told[1:]
        if kind(came) not in FINITE:
            self.assertEqual(flags & (OVERFLOW | INEXACT | UPPED), OVERFLOW | INEXACT | UPPED)
            self.assertGreaterEqual(abs(x), value(GREATEST) * Fraction((1 << 24) - 1, 1 << 24))
            return
        result = value(came)
        if not flags & OVERFLOW:
            step = self.step(x, q)
            self.assertEqual((result / step).denominator, 1)
            off = result - x
            self.assertLess(abs(off), step)
            self.assertTrue(r != 0 or 2 * abs(off) <= step)
            self.assertTrue(r != 1 or off <= 0)
            self.assertTrue(r != 2 or off >= 0)
            self.assertTrue(r != 3 or abs(result) <= abs(x))
        self.assertEqual(bool(flags & INEXACT), result != x)
        self.assertEqual(bool(flags & UPPED), abs(result) > abs(x))
        if flags & UNDERFLOW:
            self.assertTrue(flags & INEXACT)
            self.assertLess(abs(x), power_of_two(-16382))

    def test_add_sub_mul_div(self):
        for a, b in pairs(21, 300):
            for op, exact in self.EXACT.items():
                if op == DIV and value(b) == 0:
                    continue
                x = exact(value(a), value(b))
                for q in PRECISIONS:
                    for r in ROUNDINGS:
                        self.assert_nearest(x, two(op, q, r, a, b), q, r)

    def test_roots_by_their_squares(self):
        for a, b in pairs(22, 200):
            a &= (1 << 79) - 1
            if value(a) == 0:
                continue
            for q in PRECISIONS:
                low, high = (value(one(SQRT, q, r, a)[1]) for r in (1, 2))
                self.assertTrue(low * low <= value(a) <= high * high)
                self.assertIn(high - low, (0, self.step(low, q)))
                self.assertEqual(one(SQRT, q, 3, a), one(SQRT, q, 1, a))
                near = value(one(SQRT, q, 0, a)[1])
                middle = (low + high) / 2
                self.assertEqual(near, low if low == high or value(a) < middle * middle else high)
                inexact = [one(SQRT, q, r, a)[2] & INEXACT for r in ROUNDINGS]
                self.assertEqual(inexact, [0 if low * low == value(a) else INEXACT] * 4)


class FlagsAlone(unittest.TestCase):
    """U2: with 1 or 4 there's no other; overflow and underflow come with inexact; up comes with inexact."""

    def test_every_pair(self):
        for a in BOTH_SIGNS:
            for b in BOTH_SIGNS:
                for op in (ADD, SUB, MUL, DIV, SCALE):
                    for r in ROUNDINGS:
                        self.assert_well_formed(two(op, 64, r, a, b)[2])

    def assert_well_formed(self, flags):
        self.assertEqual(flags & ~(1 | 2 | 4 | 8 | 16 | 32 | 128), 0)
        if flags & (INVALID | BY_ZERO):
            self.assertIn(flags, (INVALID, BY_ZERO))
        if flags & (OVERFLOW | UNDERFLOW | UPPED):
            self.assertTrue(flags & INEXACT)
        self.assertNotEqual(flags & (OVERFLOW | UNDERFLOW), OVERFLOW | UNDERFLOW)

    def test_each_by_itself(self):
        self.assertEqual(two(SUB, 64, 0, PLUS_INF, PLUS_INF)[2], INVALID)
        self.assertEqual(two(ADD, 64, 0, LEAST, LEAST)[2], SMALL_IN)
        self.assertEqual(two(DIV, 64, 0, ONE, PLUS_ZERO)[2], BY_ZERO)
        self.assertEqual(two(ADD, 64, 3, GREATEST, GREATEST)[2], OVERFLOW + INEXACT)
        tiny = floats_bits(power_of_two(-9000))
        self.assertEqual(two(MUL, 64, 0, tiny, tiny)[2], UNDERFLOW + INEXACT)
        self.assertEqual(two(ADD, 64, 0, ONE, tiny)[2], INEXACT)
        self.assertEqual(two(ADD, 64, 2, ONE, tiny)[2], INEXACT + UPPED)
        self.assertEqual(two(ADD, 64, 0, ONE, ONE)[2], 0)


class Turned(unittest.TestCase):
    """U3."""

    def test_sum_and_product_either_way(self):
        for a in BOTH_SIGNS:
            for b in BOTH_SIGNS:
                self.assert_either_way(a, b)
        for a, b in pairs(23, 300):
            self.assert_either_way(a, b)

    def assert_either_way(self, a, b):
        for op in (ADD, MUL):
            for q, r in ((64, 0), (24, 1), (53, 2), (64, 3)):
                self.assertEqual(two(op, q, r, a, b), two(op, q, r, b, a))

    def test_turned_signs_turn_results(self):
        for a, b in pairs(24, 300):
            for q in PRECISIONS:
                for r in ROUNDINGS:
                    s = TURNED_ROUNDING[r]
                    self.assert_turned(two(ADD, q, r, a, b), two(ADD, q, s, minus(a), minus(b)))
                    self.assert_turned(two(SUB, q, r, a, b), two(SUB, q, s, b, a))
                    for op in (MUL, DIV):
                        self.assert_turned(two(op, q, r, a, b), two(op, q, s, minus(a), b))
                        self.assert_turned(two(op, q, r, a, b), two(op, q, s, a, minus(b)))
                    self.assert_turned(two(SCALE, q, r, a, b), two(SCALE, q, s, minus(a), b))
                    self.assert_turned(one(RINT, q, r, a), one(RINT, q, s, minus(a)))

    def assert_turned(self, told, turned):
        if told[2] & INVALID or (told[1] & (1 << 79) - 1 == 0 and turned[1] & (1 << 79) - 1 == 0):
            # The empty one has one sign; an exact zero's sign is told by itself.
            self.assertEqual(told[2], turned[2])
        else:
            self.assertEqual([told[0], minus(told[1]), told[2]], turned)

    def test_sub_is_add_of_the_turned_one(self):
        for a, b in pairs(25, 200):
            for q, r in ((64, 0), (24, 1), (53, 2), (64, 3)):
                self.assertEqual(two(SUB, q, r, a, b), two(ADD, q, r, a, one(CHS, q, r, b)[1]))


class ExactRemainder(unittest.TestCase):
    """U4."""

    def test_a_less_the_rest_is_a_whole_multiple(self):
        for a, b in pairs(26, 300):
            if value(a) == 0 or value(b) == 0:
                continue
            told = two(PREM, 64, 0, a, b)
            rest = value(told[1])
            self.assertEqual(((value(a) - rest) / value(b)).denominator, 1)
            self.assertEqual(told[3] & ~SMALL_IN, 0)
            if told[2] != 4:
                self.assertLess(abs(rest), abs(value(b)))
            self.assertEqual(told[1] >> 79, a >> 79)


class Undone(unittest.TestCase):
    """U5."""

    def test_extract_then_scale(self):
        for a, b in pairs(27, 300):
            if value(a) == 0:
                continue
            e, m, flags = one(EXTRACT, 64, 0, a)[1:]
            self.assertTrue(1 <= abs(value(m)) < 2)
            for r in ROUNDINGS:
                self.assertEqual(two(SCALE, 64, r, m, e), [0, floats_bits(value(a)), 0])

    def test_scale_then_extract(self):
        stream = Stream(28)
        for _ in range(300):
            m = stream.finite(0x3FFF, 0x3FFF)
            n = floats_bits(stream.below(32766) - 16382)
            scaled = two(SCALE, 64, 0, m, n)
            self.assertEqual(scaled[2], 0)
            self.assertEqual(one(EXTRACT, 64, 0, scaled[1]), [0, n, m, 0])

    def test_infinite_ones(self):
        for inf in (PLUS_INF, MINUS_INF):
            e, m = one(EXTRACT, 64, 0, inf)[1:3]
            self.assertEqual(two(SCALE, 64, 0, m, e), [0, inf, 0])

    def test_zeros(self):
        for zero in (PLUS_ZERO, MINUS_ZERO):
            e, m = one(EXTRACT, 64, 0, zero)[1:3]
            self.assertEqual(two(SCALE, 64, 0, m, e), [0, zero, 0])


class ComparedByValues(unittest.TestCase):
    """U7."""

    def test_as_the_difference(self):
        bits_of = {1: 0, -1: 1, 0: 8}
        for a, b in pairs(29, 400):
            x, y = value(a), value(b)
            self.assertEqual(two(COM, 64, 0, a, b)[1], bits_of[(x > y) - (x < y)])
            self.assertEqual(two(COM, 64, 0, b, a)[1], bits_of[(x < y) - (x > y)])
            self.assertEqual(two(COM, 64, 0, a, a)[1], 8)


if __name__ == "__main__":
    unittest.main()
