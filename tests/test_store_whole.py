"""storew: numbers given out as whole ones of 16, 32 and 64 digits, by each rounding, with the answers written out."""

import unittest
from fractions import Fraction

from tests.support import (
    ALL, CUT, DOWN, EMPTY, GREATEST, GREATEST_SMALL, HIGH, LEAST, LEAST_NORMAL, LOUD, MINUS_INF, MINUS_ZERO, NEAR,
    NEARLY_SMALL, ODD_ONES, ONE, PLUS_INF, PLUS_ZERO, QUIET, ROUNDINGS, TOO_MANY, UP, WIDTHS, Stream, ext, floats_bits,
    hexed, kind, minus, told_by_storew, value)
from wideunit.unit import load, loadw, storew

HALF = Fraction(1, 2)
QUARTER = Fraction(1, 4)


class WholeCase(unittest.TestCase):
    def assert_stored(self, n, x, by_rounding):
        """by_rounding: the whole number and flags for near, down, up and cut; None if it's invalid."""
        a = floats_bits(x)
        for r, told in zip(ROUNDINGS, by_rounding, strict=True):
            with self.subTest(n=n, r=r, x=x):
                self.assertEqual(storew(n, r, a), [0, *(told or (-(1 << n - 1), 1))])

    def assert_always(self, n, a, whole, flags):
        for r in ROUNDINGS:
            with self.subTest(n=n, r=r, a=hex(a)):
                self.assertEqual(storew(n, r, a), [0, whole, flags])


class Examples(unittest.TestCase):
    def test_the_documents_own(self):
        a = ext(0x400D, 0xFFFF000000000000)
        self.assertEqual(value(a), 32767 + HALF)
        self.assertEqual(storew(16, NEAR, a), [0, -32768, 1])
        self.assertEqual(storew(16, DOWN, a), [0, 32767, 32])
        self.assertEqual(storew(16, UP, a), [0, -32768, 1])
        self.assertEqual(storew(16, CUT, a), [0, 32767, 32])
        self.assertEqual(storew(32, NEAR, a), [0, 32768, 160])


class Kinds(WholeCase):
    def test_zeros(self):
        for n in WIDTHS:
            self.assert_always(n, PLUS_ZERO, 0, 0)
            self.assert_always(n, MINUS_ZERO, 0, 0)

    def test_not_finite(self):
        for n, lowest in ((16, -32768), (32, -2147483648), (64, -9223372036854775808)):
            for a in (PLUS_INF, MINUS_INF, QUIET, LOUD, EMPTY, minus(QUIET), minus(LOUD)) + ODD_ONES:
                self.assert_always(n, a, lowest, 1)
            for a in ODD_ONES:
                self.assert_always(n, minus(a), lowest, 1)

    def test_too_great(self):
        for n in WIDTHS:
            for a in (GREATEST, ext(0x403F, HIGH), ext(0x4040, ALL), ext(0x7000, HIGH)):
                self.assert_always(n, a, -(1 << n - 1), 1)
                self.assert_always(n, minus(a), -(1 << n - 1), 1)

    def test_whole_ones(self):
        for n in WIDTHS:
            for whole in (1, -1, 2, -2, 3, 100, -100, 12345, -12345, 32766, -32767):
                self.assert_always(n, floats_bits(whole), whole, 0)

    def test_small_ones_without_flag_two(self):
        for n in WIDTHS:
            for a in (LEAST, GREATEST_SMALL, NEARLY_SMALL, ext(0x0000, ALL), LEAST_NORMAL, ext(0x3FFD, ALL)):
                told = [storew(n, r, a) for r in ROUNDINGS]
                self.assertEqual(told, [[0, 0, 32], [0, 0, 32], [0, 1, 160], [0, 0, 32]])
                told = [storew(n, r, minus(a)) for r in ROUNDINGS]
                self.assertEqual(told, [[0, 0, 32], [0, -1, 160], [0, 0, 32], [0, 0, 32]])


class Halfway(WholeCase):
    def test_between_whole_ones(self):
        for n in WIDTHS:
            self.assert_stored(n, HALF, [(0, 32), (0, 32), (1, 160), (0, 32)])
            self.assert_stored(n, -HALF, [(0, 32), (-1, 160), (0, 32), (0, 32)])
            self.assert_stored(n, 1 + HALF, [(2, 160), (1, 32), (2, 160), (1, 32)])
            self.assert_stored(n, -1 - HALF, [(-2, 160), (-2, 160), (-1, 32), (-1, 32)])
            self.assert_stored(n, 2 + HALF, [(2, 32), (2, 32), (3, 160), (2, 32)])
            self.assert_stored(n, -2 - HALF, [(-2, 32), (-3, 160), (-2, 32), (-2, 32)])
            self.assert_stored(n, 3 + HALF, [(4, 160), (3, 32), (4, 160), (3, 32)])

    def test_near_the_middle(self):
        for n in WIDTHS:
            self.assert_stored(n, QUARTER, [(0, 32), (0, 32), (1, 160), (0, 32)])
            self.assert_stored(n, 3 * QUARTER, [(1, 160), (0, 32), (1, 160), (0, 32)])
            self.assert_stored(n, -3 * QUARTER, [(-1, 160), (-1, 160), (0, 32), (0, 32)])
            self.assert_stored(n, value(ext(0x3FFE, HIGH + 1)), [(1, 160), (0, 32), (1, 160), (0, 32)])
            self.assert_stored(n, value(ext(0x3FFD, ALL)), [(0, 32), (0, 32), (1, 160), (0, 32)])
            self.assert_stored(n, value(ext(0x4000, 0xA000000000000001)), [(3, 160), (2, 32), (3, 160), (2, 32)])
            self.assert_stored(n, value(ext(0x3FFF, 0xBFFFFFFFFFFFFFFF)), [(1, 32), (1, 32), (2, 160), (1, 32)])
            self.assert_stored(n, value(ext(0x3FFF, ALL)), [(2, 160), (1, 32), (2, 160), (1, 32)])


class Ends(WholeCase):
    def test_both_ends(self):
        for n in WIDTHS:
            top = (1 << n - 1) - 1
            self.assert_always(n, floats_bits(top), top, 0)
            self.assert_always(n, floats_bits(-top), -top, 0)
            self.assert_always(n, floats_bits(-top - 1), -top - 1, 0)
            self.assert_stored(n, top + 1, [None] * 4)
            self.assert_stored(n, top + 2, [None] * 4)
            self.assert_stored(n, -top - 2, [None] * 4)

    def test_within_the_upper_end(self):
        for n in WIDTHS:
            top = (1 << n - 1) - 1
            self.assert_stored(n, top - HALF, [(top - 1, 32), (top - 1, 32), (top, 160), (top - 1, 32)])

    def test_beyond_the_upper_end(self):
        for n in WIDTHS:
            top = (1 << n - 1) - 1
            self.assert_stored(n, top + HALF, [None, (top, 32), None, (top, 32)])
        for n in (16, 32):
            top = (1 << n - 1) - 1
            self.assert_stored(n, top + QUARTER, [(top, 32), (top, 32), None, (top, 32)])
            self.assert_stored(n, top + 3 * QUARTER, [None, (top, 32), None, (top, 32)])
            least = Fraction(1, 1 << 65 - n)
            self.assert_stored(n, top + HALF - least, [(top, 32), (top, 32), None, (top, 32)])
            self.assert_stored(n, top + HALF + least, [None, (top, 32), None, (top, 32)])
            self.assert_stored(n, top + 1 - least, [None, (top, 32), None, (top, 32)])

    def test_within_the_lower_end(self):
        for n in WIDTHS:
            low = -(1 << n - 1)
            self.assert_stored(n, low + HALF, [(low, 160), (low, 160), (low + 1, 32), (low + 1, 32)])
        for n in (16, 32):
            low = -(1 << n - 1)
            self.assert_stored(n, low + QUARTER, [(low, 160), (low, 160), (low + 1, 32), (low + 1, 32)])
            self.assert_stored(n, low + 3 * QUARTER, [(low + 1, 32), (low, 160), (low + 1, 32), (low + 1, 32)])

    def test_beyond_the_lower_end(self):
        for n in (16, 32):
            low = -(1 << n - 1)
            self.assert_stored(n, low - HALF, [(low, 32), None, (low, 32), (low, 32)])
            self.assert_stored(n, low - QUARTER, [(low, 32), None, (low, 32), (low, 32)])
            self.assert_stored(n, low - 3 * QUARTER, [None, None, (low, 32), (low, 32)])
            least = Fraction(1, 1 << 64 - n)
            self.assert_stored(n, low - HALF - least, [None, None, (low, 32), (low, 32)])
            self.assert_stored(n, low - 1 + least, [None, None, (low, 32), (low, 32)])

    def test_what_is_too_much_for_fewer_digits(self):
        self.assert_always(32, floats_bits(32768), 32768, 0)
        self.assert_always(32, floats_bits(-32769), -32769, 0)
        self.assert_always(64, floats_bits(1 << 31), 1 << 31, 0)
        self.assert_always(64, floats_bits(-(1 << 31) - 1), -(1 << 31) - 1, 0)


class TooManyBits(unittest.TestCase):
    def test_refused(self):
        for bits in TOO_MANY:
            for n in WIDTHS:
                for r in ROUNDINGS:
                    self.assertEqual(storew(n, r, bits), [-1])

    def test_eighty_bits_are_not_too_many(self):
        self.assertEqual(storew(16, 0, (1 << 80) - 1), [0, -32768, 1])


class ManyOfThem(unittest.TestCase):
    def assert_told(self, n, r, a):
        told, asked = storew(n, r, a), told_by_storew(n, r, a)
        if told != asked:
            self.fail(f"storew({n}, {r}, {a:#x}): {hexed(told)}, asked {hexed(asked)}")

    def test_every_exponent(self):
        stream = Stream(52)
        for exponent_bits in (0, 1, *range(0x3FFF - 3, 0x3FFF + 68), 0x7FFE, 0x7FFF):
            for significand in (0, 1, HIGH, HIGH + 1, 0xC000000000000000, ALL - 1, ALL, stream.significand()):
                for s in (0, 0x8000):
                    for n in WIDTHS:
                        for r in ROUNDINGS:
                            self.assert_told(n, r, ext(exponent_bits | s, significand))

    def test_many(self):
        stream = Stream(53)
        for n in WIDTHS:
            for _ in range(2000):
                self.assert_told(n, stream.pick(ROUNDINGS), stream.finite(0x3FFB, 0x3FFF + n))

    def test_halves_and_quarters(self):
        stream = Stream(54)
        for n in WIDTHS:
            for _ in range(1500):
                whole = stream.bits(1 + stream.below(min(n, 60))) * stream.pick((1, -1))
                x = whole + stream.pick((-HALF, -QUARTER, QUARTER, HALF))
                if kind(floats_bits(x)) == "normal":
                    self.assert_told(n, stream.pick(ROUNDINGS), floats_bits(x))


class LoadedAndStored(unittest.TestCase):
    """U6."""

    def test_what_is_loaded_and_stored_again_is_itself(self):
        stream = Stream(55)
        for n in WIDTHS:
            top = (1 << n - 1) - 1
            drawn = [stream.bits(1 + stream.below(n - 1)) * stream.pick((1, -1)) for _ in range(500)]
            for z in [0, 1, -1, top, top - 1, -top, -top - 1, *drawn]:
                number = loadw(z)[1]
                for r in ROUNDINGS:
                    self.assertEqual(storew(n, r, number), [0, z, 0])

    def test_what_is_stored_without_flags_loads_again(self):
        stream = Stream(56)
        for _ in range(500):
            number = floats_bits(stream.bits(1 + stream.below(63)) + 1)
            stored = storew(64, 0, number)
            if stored[2] == 0:
                self.assertEqual(loadw(stored[1]), [0, number])

    def test_ones_of_a_float(self):
        self.assertEqual(storew(16, 0, load(1, 0x3F800000)[1]), [0, 1, 0])
        self.assertEqual(storew(16, 0, ONE), [0, 1, 0])


if __name__ == "__main__":
    unittest.main()
