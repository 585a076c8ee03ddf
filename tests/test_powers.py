"""scale, extract and rint."""

import unittest
from fractions import Fraction

from tests.support import (
    ALL, EMPTY, EXTRACT, GREATEST, GREATEST_SMALL, HIGH, LEAST, LEAST_NORMAL, MINUS_INF, MINUS_ONE, MINUS_ZERO,
    NEARLY_SMALL, ONE, PLUS_INF, PLUS_ZERO, PRECISIONS, RINT, ROUNDINGS, SCALE, ext, floats_bits, minus)
from wideunit.unit import one, two


class ScaleCase(unittest.TestCase):
    def assert_told(self, a, b, by_rounding):
        for q in PRECISIONS:
            for r, told in zip(ROUNDINGS, by_rounding, strict=True):
                with self.subTest(q=q, r=r, a=hex(a), b=hex(b)):
                    self.assertEqual(two(SCALE, q, r, a, b), [0, *told])

    def assert_always(self, a, b, bits, flags):
        self.assert_told(a, b, [(bits, flags)] * 4)


class Scale(ScaleCase):
    def test_infinite_b(self):
        for zero in (PLUS_ZERO, MINUS_ZERO):
            self.assert_always(zero, PLUS_INF, EMPTY, 1)
            self.assert_always(zero, MINUS_INF, zero, 0)
        for inf in (PLUS_INF, MINUS_INF):
            self.assert_always(inf, MINUS_INF, EMPTY, 1)
            self.assert_always(inf, PLUS_INF, inf, 0)
        self.assert_always(ONE, PLUS_INF, PLUS_INF, 0)
        self.assert_always(MINUS_ONE, PLUS_INF, MINUS_INF, 0)
        self.assert_always(ONE, MINUS_INF, PLUS_ZERO, 0)
        self.assert_always(MINUS_ONE, MINUS_INF, MINUS_ZERO, 0)
        self.assert_always(minus(LEAST), PLUS_INF, MINUS_INF, 2)
        self.assert_always(minus(NEARLY_SMALL), MINUS_INF, MINUS_ZERO, 2)

    def test_zero_and_infinite_a(self):
        for a in (PLUS_ZERO, MINUS_ZERO, PLUS_INF, MINUS_INF):
            for b in (PLUS_ZERO, ONE, MINUS_ONE, GREATEST, minus(GREATEST)):
                self.assert_always(a, b, a, 0)
            self.assert_always(a, LEAST, a, 2)

    def test_b_is_cut(self):
        for b, n in ((Fraction(39, 10), 3), (Fraction(-39, 10), -3), (Fraction(1, 2), 0), (Fraction(-999, 1000), 0),
                     (Fraction(3, 2), 1), (Fraction(-3, 2), -1), (Fraction(5, 2), 2), (4, 4), (-4, -4), (0, 0)):
            about = int(Fraction(b) * (1 << 60)) * Fraction(1, 1 << 60)
            self.assert_always(ONE, floats_bits(about), ext(0x3FFF + n, HIGH), 0)
        self.assert_always(ONE, ext(0x3FFE, ALL), ONE, 0)
        self.assert_always(ONE, ext(0xBFFE, ALL), ONE, 0)

    def test_small_b(self):
        for b in (LEAST, minus(LEAST), NEARLY_SMALL, minus(GREATEST_SMALL)):
            self.assert_always(ext(0x4123, ALL), b, ext(0x4123, ALL), 2)
        self.assert_always(ONE, LEAST_NORMAL, ONE, 0)
        self.assert_always(NEARLY_SMALL, PLUS_ZERO, LEAST_NORMAL, 2)

    def test_all_digits_stay(self):
        a = ext(0xBFFF, 0xDEADBEEFCAFEBABF)
        self.assert_always(a, floats_bits(1000), ext(0xBFFF + 1000, 0xDEADBEEFCAFEBABF), 0)
        self.assert_always(a, floats_bits(-1000), ext(0xBFFF - 1000, 0xDEADBEEFCAFEBABF), 0)

    def test_overflow(self):
        told = [(PLUS_INF, 168), (GREATEST, 40), (PLUS_INF, 168), (GREATEST, 40)]
        self.assert_told(ONE, floats_bits(16384), told)
        self.assert_told(ext(0x3FFF, ALL), floats_bits(16384), told)
        self.assert_always(ext(0x3FFF, ALL), floats_bits(16383), GREATEST, 0)
        told = [(MINUS_INF, 168), (MINUS_INF, 168), (minus(GREATEST), 40), (minus(GREATEST), 40)]
        self.assert_told(MINUS_ONE, floats_bits(16384), told)

    def test_underflow(self):
        self.assert_always(ONE, floats_bits(-16382), LEAST_NORMAL, 0)
        self.assert_always(ONE, floats_bits(-16383), ext(0x0000, HIGH >> 1), 0)
        self.assert_always(ONE, floats_bits(-16445), LEAST, 0)
        told = [(PLUS_ZERO, 48), (PLUS_ZERO, 48), (LEAST, 176), (PLUS_ZERO, 48)]
        self.assert_told(ONE, floats_bits(-16446), told)
        self.assert_told(ONE, floats_bits(-16447), told)
        told = [(LEAST, 176), (PLUS_ZERO, 48), (LEAST, 176), (PLUS_ZERO, 48)]
        self.assert_told(ext(0x3FFF, HIGH + 1), floats_bits(-16446), told)
        told = [(LEAST_NORMAL, 176), (GREATEST_SMALL, 48), (LEAST_NORMAL, 176), (GREATEST_SMALL, 48)]
        self.assert_told(ext(0x3FFF, ALL), floats_bits(-16383), told)
        told = [(MINUS_ZERO, 48), (minus(LEAST), 176), (MINUS_ZERO, 48), (MINUS_ZERO, 48)]
        self.assert_told(MINUS_ONE, floats_bits(-16446), told)

    def test_from_small_to_great(self):
        self.assert_always(LEAST, floats_bits(16445), ONE, 2)
        self.assert_always(LEAST, floats_bits(16445 + 16383), ext(0x7FFE, HIGH), 2)
        told = [(PLUS_INF, 170), (GREATEST, 42), (PLUS_INF, 170), (GREATEST, 42)]
        self.assert_told(LEAST, floats_bits(16445 + 16384), told)
        self.assert_always(ext(0x7FFE, HIGH), floats_bits(-16383 - 16445), LEAST, 0)

    def test_however_large_b_is(self):
        for b in (floats_bits(65536), floats_bits(1 << 70), ext(0x5000, ALL), GREATEST):
            told = [(PLUS_INF, 168), (GREATEST, 40), (PLUS_INF, 168), (GREATEST, 40)]
            self.assert_told(ONE, b, told)
            told = [(PLUS_INF, 170), (GREATEST, 42), (PLUS_INF, 170), (GREATEST, 42)]
            self.assert_told(LEAST, b, told)
            told = [(PLUS_ZERO, 48), (PLUS_ZERO, 48), (LEAST, 176), (PLUS_ZERO, 48)]
            self.assert_told(GREATEST, minus(b), told)
            told = [(MINUS_ZERO, 48), (minus(LEAST), 176), (MINUS_ZERO, 48), (MINUS_ZERO, 48)]
            self.assert_told(minus(GREATEST), minus(b), told)


class Extract(unittest.TestCase):
    def assert_told(self, a, *told):
        for q in PRECISIONS:
            for r in ROUNDINGS:
                self.assertEqual(one(EXTRACT, q, r, a), [0, *told])

    def test_zero(self):
        self.assert_told(PLUS_ZERO, MINUS_INF, PLUS_ZERO, 4)
        self.assert_told(MINUS_ZERO, MINUS_INF, MINUS_ZERO, 4)

    def test_infinite(self):
        self.assert_told(PLUS_INF, PLUS_INF, PLUS_INF, 0)
        self.assert_told(MINUS_INF, PLUS_INF, MINUS_INF, 0)

    def test_exponent_nought_is_plus_zero(self):
        self.assert_told(ONE, PLUS_ZERO, ONE, 0)
        self.assert_told(ext(0xBFFF, ALL), PLUS_ZERO, ext(0xBFFF, ALL), 0)

    def test_normal_ones(self):
        self.assert_told(ext(0x3FFE, ALL), MINUS_ONE, ext(0x3FFF, ALL), 0)
        self.assert_told(GREATEST, floats_bits(16383), ext(0x3FFF, ALL), 0)
        self.assert_told(minus(LEAST_NORMAL), floats_bits(-16382), MINUS_ONE, 0)

    def test_small_ones(self):
        self.assert_told(LEAST, floats_bits(-16445), ONE, 2)
        self.assert_told(ext(0x8000, 3), floats_bits(-16444), ext(0xBFFF, 0xC000000000000000), 2)
        self.assert_told(GREATEST_SMALL, floats_bits(-16383), ext(0x3FFF, ALL - 1), 2)
        self.assert_told(ext(0x8000, HIGH + 1), floats_bits(-16382), ext(0xBFFF, HIGH + 1), 2)


class Rint(unittest.TestCase):
    def assert_told(self, a, by_rounding):
        for q in PRECISIONS:
            for r, told in zip(ROUNDINGS, by_rounding, strict=True):
                with self.subTest(q=q, r=r, a=hex(a)):
                    self.assertEqual(one(RINT, q, r, a), [0, *told])

    def test_whole_ones(self):
        for a in (PLUS_ZERO, MINUS_ZERO, PLUS_INF, MINUS_INF, ONE, MINUS_ONE, floats_bits(12345), GREATEST,
                  ext(0x403E, ALL), ext(0xC03E, HIGH + 1), ext(0x403D, ALL - 1)):
            self.assert_told(a, [(a, 0)] * 4)

    def test_halves(self):
        for whole in range(20):
            low, high = floats_bits(whole), floats_bits(whole + 1)
            a = floats_bits(Fraction(2 * whole + 1, 2))
            near = (low, 32) if whole % 2 == 0 else (high, 160)
            self.assert_told(a, [near, (low, 32), (high, 160), (low, 32)])
            near = minus(near[0]), near[1]
            self.assert_told(minus(a), [near, (minus(high), 160), (minus(low), 32), (minus(low), 32)])

    def test_beside_halves(self):
        two_, three = floats_bits(2), floats_bits(3)
        above, below = ext(0x4000, 0xA000000000000001), ext(0x4000, 0xDFFFFFFFFFFFFFFF)
        self.assert_told(above, [(three, 160), (two_, 32), (three, 160), (two_, 32)])
        self.assert_told(below, [(three, 32), (three, 32), (floats_bits(4), 160), (three, 32)])

    def test_to_zero_with_the_sign(self):
        for a in (ext(0x3FFE, HIGH), ext(0x3FFD, ALL), LEAST_NORMAL):
            self.assert_told(a, [(PLUS_ZERO, 32), (PLUS_ZERO, 32), (ONE, 160), (PLUS_ZERO, 32)])
            told = [(MINUS_ZERO, 32), (MINUS_ONE, 160), (MINUS_ZERO, 32), (MINUS_ZERO, 32)]
            self.assert_told(minus(a), told)
        just_over = ext(0x3FFE, HIGH + 1)
        self.assert_told(just_over, [(ONE, 160), (PLUS_ZERO, 32), (ONE, 160), (PLUS_ZERO, 32)])

    def test_small_ones(self):
        for a in (LEAST, GREATEST_SMALL, NEARLY_SMALL):
            self.assert_told(a, [(PLUS_ZERO, 34), (PLUS_ZERO, 34), (ONE, 162), (PLUS_ZERO, 34)])
            told = [(MINUS_ZERO, 34), (MINUS_ONE, 162), (MINUS_ZERO, 34), (MINUS_ZERO, 34)]
            self.assert_told(minus(a), told)

    def test_carry_and_the_last_fraction(self):
        # 2^63 - 1/2, the greatest one with a half.
        low, high = ext(0x403D, ALL - 1), ext(0x403E, HIGH)
        self.assert_told(ext(0x403D, ALL), [(high, 160), (low, 32), (high, 160), (low, 32)])
        told = [(minus(high), 160), (minus(high), 160), (minus(low), 32), (minus(low), 32)]
        self.assert_told(ext(0xC03D, ALL), told)


if __name__ == "__main__":
    unittest.main()
