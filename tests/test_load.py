"""load: singles and doubles taken in, with the answers written out, and many more by a second telling."""

import struct
import unittest
from fractions import Fraction

from tests.support import (
    DOUBLE, FORMATS, HIGH, MINUS_INF, MINUS_ONE, MINUS_ZERO, MOST, NARROW, ONE, PLUS_INF, PLUS_ZERO, SINGLE, Stream,
    ext, hexed, kind, minus, narrow_joined, narrow_kind, told_by_load, value)
from wideunit.unit import load

# The bits, the number, the flags.
SINGLES = (
    (0x00000000, PLUS_ZERO, 0),
    (0x00000001, ext(0x3F6A, HIGH), 2),
    (0x00000002, ext(0x3F6B, HIGH), 2),
    (0x00000003, ext(0x3F6B, 0xC000000000000000), 2),
    (0x00400000, ext(0x3F80, HIGH), 2),
    (0x00400001, ext(0x3F80, 0x8000020000000000), 2),
    (0x007FFFFF, ext(0x3F80, 0xFFFFFE0000000000), 2),
    (0x00800000, ext(0x3F81, HIGH), 0),
    (0x00800001, ext(0x3F81, 0x8000010000000000), 0),
    (0x00FFFFFF, ext(0x3F81, 0xFFFFFF0000000000), 0),
    (0x01000000, ext(0x3F82, HIGH), 0),
    (0x3F7FFFFF, ext(0x3FFE, 0xFFFFFF0000000000), 0),
    (0x3F800000, ONE, 0),
    (0x3F800001, ext(0x3FFF, 0x8000010000000000), 0),
    (0x40490FDB, ext(0x4000, 0xC90FDB0000000000), 0),
    (0x7F000000, ext(0x407E, HIGH), 0),
    (0x7F7FFFFF, ext(0x407E, 0xFFFFFF0000000000), 0),
    (0x7F800000, PLUS_INF, 0),
    (0x7F800001, ext(0x7FFF, 0xC000010000000000), 1),
    (0x7FA5A5A5, ext(0x7FFF, 0xE5A5A50000000000), 1),
    (0x7FBFFFFF, ext(0x7FFF, 0xFFFFFF0000000000), 1),
    (0x7FC00000, ext(0x7FFF, 0xC000000000000000), 0),
    (0x7FC00001, ext(0x7FFF, 0xC000010000000000), 0),
    (0x7FE5A5A5, ext(0x7FFF, 0xE5A5A50000000000), 0),
    (0x7FFFFFFF, ext(0x7FFF, 0xFFFFFF0000000000), 0),
)
DOUBLES = (
    (0x0000000000000000, PLUS_ZERO, 0),
    (0x0000000000000001, ext(0x3BCD, HIGH), 2),
    (0x0000000000000002, ext(0x3BCE, HIGH), 2),
    (0x0000000000000003, ext(0x3BCE, 0xC000000000000000), 2),
    (0x0008000000000000, ext(0x3C00, HIGH), 2),
    (0x0008000000000001, ext(0x3C00, 0x8000000000001000), 2),
    (0x000FFFFFFFFFFFFF, ext(0x3C00, 0xFFFFFFFFFFFFF000), 2),
    (0x0010000000000000, ext(0x3C01, HIGH), 0),
    (0x0010000000000001, ext(0x3C01, 0x8000000000000800), 0),
    (0x001FFFFFFFFFFFFF, ext(0x3C01, 0xFFFFFFFFFFFFF800), 0),
    (0x0020000000000000, ext(0x3C02, HIGH), 0),
    (0x3FEFFFFFFFFFFFFF, ext(0x3FFE, 0xFFFFFFFFFFFFF800), 0),
    (0x3FF0000000000000, ONE, 0),
    (0x3FF0000000000001, ext(0x3FFF, 0x8000000000000800), 0),
    (0x400921FB54442D18, ext(0x4000, 0xC90FDAA22168C000), 0),
    (0x7FE0000000000000, ext(0x43FE, HIGH), 0),
    (0x7FEFFFFFFFFFFFFF, ext(0x43FE, 0xFFFFFFFFFFFFF800), 0),
    (0x7FF0000000000000, PLUS_INF, 0),
    (0x7FF0000000000001, ext(0x7FFF, 0xC000000000000800), 1),
    (0x7FF5A5A5A5A5A5A5, ext(0x7FFF, 0xED2D2D2D2D2D2800), 1),
    (0x7FF7FFFFFFFFFFFF, ext(0x7FFF, 0xFFFFFFFFFFFFF800), 1),
    (0x7FF8000000000000, ext(0x7FFF, 0xC000000000000000), 0),
    (0x7FF8000000000001, ext(0x7FFF, 0xC000000000000800), 0),
    (0x7FFDA5A5A5A5A5A5, ext(0x7FFF, 0xED2D2D2D2D2D2800), 0),
    (0x7FFFFFFFFFFFFFFF, ext(0x7FFF, 0xFFFFFFFFFFFFF800), 0),
)


class WrittenOut(unittest.TestCase):
    def assert_loaded(self, f, rows):
        sign_bit = 1 << FORMATS[f][3] - 1
        for x, bits, flags in rows:
            with self.subTest(f=f, x=hex(x)):
                self.assertEqual(hexed(load(f, x)), hexed([0, bits, flags]))
                self.assertEqual(hexed(load(f, x | sign_bit)), hexed([0, minus(bits), flags]))

    def test_single(self):
        self.assert_loaded(SINGLE, SINGLES)

    def test_double(self):
        self.assert_loaded(DOUBLE, DOUBLES)

    def test_signs(self):
        self.assertEqual(load(SINGLE, 0x80000000), [0, MINUS_ZERO, 0])
        self.assertEqual(load(SINGLE, 0xBF800000), [0, MINUS_ONE, 0])
        self.assertEqual(load(SINGLE, 0xFF800000), [0, MINUS_INF, 0])
        self.assertEqual(load(DOUBLE, 0x8000000000000000), [0, MINUS_ZERO, 0])
        self.assertEqual(load(DOUBLE, 0xBFF0000000000000), [0, MINUS_ONE, 0])
        self.assertEqual(load(DOUBLE, 0xFFF0000000000000), [0, MINUS_INF, 0])

    def test_empty_ones(self):
        empty = ext(0xFFFF, 0xC000000000000000)
        self.assertEqual(load(SINGLE, 0xFFC00000), [0, empty, 0])
        self.assertEqual(load(DOUBLE, 0xFFF8000000000000), [0, empty, 0])


class TooManyBits(unittest.TestCase):
    def test_single(self):
        beyond = (1 << 32, (1 << 32) + 0x3F800000, (1 << 33) - 1, 1 << 63, (1 << 64) - 1, 1 << 64, 1 << 80, MOST)
        for x in beyond:
            self.assertEqual(load(SINGLE, x), [-1])
        self.assertEqual(load(SINGLE, (1 << 32) - 1), [0, ext(0xFFFF, 0xFFFFFF0000000000), 0])

    def test_double(self):
        for x in (1 << 64, (1 << 64) + (0x3FF << 52), (1 << 65) - 1, (1 << 80) - 1, 1 << 80, 1 << 95, MOST):
            self.assertEqual(load(DOUBLE, x), [-1])
        self.assertEqual(load(DOUBLE, (1 << 64) - 1), [0, ext(0xFFFF, 0xFFFFFFFFFFFFF800), 0])

    def test_what_is_too_much_for_single_is_not_for_double(self):
        self.assertEqual(load(DOUBLE, 1 << 32), [0, ext(0x3BCD + 32, HIGH), 2])
        self.assertEqual(load(DOUBLE, 0x3FF0000000000000), [0, ONE, 0])


class ManyOfThem(unittest.TestCase):
    def assert_told(self, f, x):
        told, asked = load(f, x), told_by_load(f, x)
        if told != asked:
            self.fail(f"load({f}, {x:#x}): {hexed(told)}, asked {hexed(asked)}")

    def fractions(self, p):
        """Each digit of the fraction alone, all from it on and all up to it."""
        for place in range(p - 1):
            yield 1 << place
            yield (1 << place + 1) - 1
            yield (1 << p - 1) - (1 << place)

    def test_every_exponent_and_every_digit(self):
        for f in NARROW:
            p, emax = FORMATS[f][0], FORMATS[f][2]
            for s in (0, 1):
                for exponent_bits in range(2 * emax + 2):
                    for fraction in (0, 1, 1 << p - 2, (1 << p - 1) - 1):
                        self.assert_told(f, narrow_joined(f, s, exponent_bits, fraction))
                for exponent_bits in (0, 1, emax, 2 * emax, 2 * emax + 1):
                    for fraction in self.fractions(p):
                        self.assert_told(f, narrow_joined(f, s, exponent_bits, fraction))

    def test_many(self):
        stream = Stream(41)
        for f in NARROW:
            for _ in range(4000):
                self.assert_told(f, stream.bits(FORMATS[f][3]))

    def test_the_values_are_pythons_own(self):
        stream = Stream(42)
        codes = {SINGLE: (">I", ">f"), DOUBLE: (">Q", ">d")}
        for f in NARROW:
            for _ in range(3000):
                x = stream.bits(FORMATS[f][3])
                if narrow_kind(f, x) not in ("zero", "small", "normal"):
                    continue
                held = struct.unpack(codes[f][1], struct.pack(codes[f][0], x))[0]
                told = load(f, x)
                self.assertEqual(value(told[1]), Fraction(held))
                self.assertIn(kind(told[1]), ("zero", "normal"))
                self.assertEqual(told[1] >> 79, x >> FORMATS[f][3] - 1)


if __name__ == "__main__":
    unittest.main()
