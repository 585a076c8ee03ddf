"""storep: numbers given out as ten bytes of decimal digits, by each rounding, with the answers written out."""

import unittest
from fractions import Fraction

from tests.support import (
    ALL, CUT, DOWN, EMPTY, GREATEST, GREATEST_SMALL, HIGH, LEAST, LEAST_NORMAL, LOUD, MINUS_INF, MINUS_ONE, MINUS_ZERO,
    NEAR, NEARLY_SMALL, ODD_ONES, ONE, PLUS_INF, PLUS_ZERO, QUIET, ROUNDINGS, TOO_MANY, UP, Stream, ext, floats_bits,
    hexed, minus, packed, told_by_storep, value)
from wideunit.unit import loadp, storep

NO_PACKED = [0x00, 0x00, 0x00, 0x00, 0x00, 0x00, 0x00, 0xC0, 0xFF, 0xFF]
NOUGHT = [0] * 9
MOST_PACKED = 10 ** 18 - 1
HALF = Fraction(1, 2)
# How finely numbers lie just below 10^18.
LEAST_STEP = Fraction(1, 16)
TURNED_ROUNDING = (0, 2, 1, 3)


class PackedCase(unittest.TestCase):
    def assert_always(self, a, told, flags):
        for r in ROUNDINGS:
            with self.subTest(r=r, a=hex(a)):
                self.assertEqual(storep(r, a), [0, *told, flags])

    def assert_stored(self, x, by_rounding):
        """by_rounding: size and flags for near, down, up and cut; None if it's invalid; of minus x likewise, turned."""
        for r, told in zip(ROUNDINGS, by_rounding, strict=True):
            for s, rounding in ((0, r), (1, TURNED_ROUNDING[r])):
                with self.subTest(x=x, s=s, r=rounding):
                    asked = [*packed(told[0], s), told[1]] if told else [*NO_PACKED, 1]
                    self.assertEqual(storep(rounding, floats_bits(-x if s else x)), [0, *asked])


class WrittenOut(PackedCase):
    def test_the_documents_own(self):
        self.assert_always(floats_bits(-1234), [0x34, 0x12, 0, 0, 0, 0, 0, 0, 0, 0x80], 0)
        self.assert_always(floats_bits(1234), [0x34, 0x12, 0, 0, 0, 0, 0, 0, 0, 0x00], 0)

    def test_zeros(self):
        self.assert_always(PLUS_ZERO, NOUGHT + [0x00], 0)
        self.assert_always(MINUS_ZERO, NOUGHT + [0x80], 0)

    def test_ones(self):
        self.assert_always(ONE, [1] + [0] * 9, 0)
        self.assert_always(MINUS_ONE, [1] + [0] * 8 + [0x80], 0)

    def test_the_greatest(self):
        self.assert_always(ext(0x403A, 0xDE0B6B3A763FFFF0), [0x99] * 9 + [0x00], 0)
        self.assert_always(ext(0xC03A, 0xDE0B6B3A763FFFF0), [0x99] * 9 + [0x80], 0)

    def test_all_digits_in_order(self):
        told = [0x78, 0x56, 0x34, 0x12, 0x90, 0x78, 0x56, 0x34, 0x12, 0x00]
        self.assert_always(floats_bits(123456789012345678), told, 0)

    def test_each_digit_in_each_place(self):
        for place in range(18):
            for digit in range(1, 10):
                told = [0] * 10
                told[place // 2] = digit << 4 * (place % 2)
                self.assertEqual(storep(0, floats_bits(digit * 10 ** place)), [0, *told, 0])
                told[9] = 0x80
                self.assertEqual(storep(0, floats_bits(-digit * 10 ** place)), [0, *told, 0])


class NotPacked(PackedCase):
    def test_not_finite(self):
        for a in (PLUS_INF, MINUS_INF, QUIET, minus(QUIET), LOUD, minus(LOUD), EMPTY) + ODD_ONES:
            self.assert_always(a, NO_PACKED, 1)
        for a in ODD_ONES:
            self.assert_always(minus(a), NO_PACKED, 1)

    def test_too_great(self):
        for a in (floats_bits(10 ** 18), floats_bits(10 ** 18 + 1), ext(0x403B, HIGH), ext(0x403E, ALL), GREATEST):
            self.assert_always(a, NO_PACKED, 1)
            self.assert_always(minus(a), NO_PACKED, 1)

    def test_what_rounds_to_one_more_digit(self):
        below = (MOST_PACKED, 32)
        self.assert_stored(MOST_PACKED + HALF, [None, below, None, below])
        self.assert_stored(MOST_PACKED + HALF - LEAST_STEP, [below, below, None, below])
        self.assert_stored(MOST_PACKED + HALF + LEAST_STEP, [None, below, None, below])
        self.assert_stored(MOST_PACKED + LEAST_STEP, [below, below, None, below])
        self.assert_stored(MOST_PACKED + 1 - LEAST_STEP, [None, below, None, below])
        self.assert_stored(10 ** 18 + LEAST_STEP, [None] * 4)

    def test_what_rounds_to_the_greatest(self):
        low = (MOST_PACKED - 1, 32)
        self.assert_stored(MOST_PACKED - HALF, [low, low, (MOST_PACKED, 160), low])
        self.assert_stored(
            MOST_PACKED - HALF + LEAST_STEP, [(MOST_PACKED, 160), low, (MOST_PACKED, 160), low])


class Rounded(PackedCase):
    def test_halfway(self):
        self.assert_stored(1 + HALF, [(2, 160), (1, 32), (2, 160), (1, 32)])
        self.assert_stored(2 + HALF, [(2, 32), (2, 32), (3, 160), (2, 32)])
        self.assert_stored(Fraction(7, 4), [(2, 160), (1, 32), (2, 160), (1, 32)])
        self.assert_stored(Fraction(5, 4), [(1, 32), (1, 32), (2, 160), (1, 32)])
        self.assert_stored(99 + HALF, [(100, 160), (99, 32), (100, 160), (99, 32)])
        self.assert_stored(9999999999 + HALF, [(10 ** 10, 160), (9999999999, 32), (10 ** 10, 160), (9999999999, 32)])

    def test_numbers_that_become_0(self):
        nearer_0 = [(0, 32), (0, 32), (1, 160), (0, 32)]
        self.assert_stored(HALF, nearer_0)
        self.assert_stored(Fraction(1, 4), nearer_0)
        self.assert_stored(Fraction(3, 4), [(1, 160), (0, 32), (1, 160), (0, 32)])
        self.assert_stored(value(ext(0x3FFE, HIGH + 1)), [(1, 160), (0, 32), (1, 160), (0, 32)])
        self.assert_stored(value(ext(0x3FFD, ALL)), nearer_0)
        self.assertEqual(storep(NEAR, floats_bits(-HALF)), [0, *NOUGHT, 0x80, 32])
        self.assertEqual(storep(UP, floats_bits(-HALF)), [0, *NOUGHT, 0x80, 32])
        self.assertEqual(storep(CUT, floats_bits(-HALF)), [0, *NOUGHT, 0x80, 32])
        self.assertEqual(storep(DOWN, floats_bits(-HALF)), [0, 1, 0, 0, 0, 0, 0, 0, 0, 0, 0x80, 160])

    def test_small_ones_without_flag_two(self):
        for a in (LEAST, GREATEST_SMALL, NEARLY_SMALL, ext(0x0000, ALL), LEAST_NORMAL):
            for r, last in ((NEAR, 32), (DOWN, 32), (UP, 160), (CUT, 32)):
                size = 1 if r == UP else 0
                self.assertEqual(storep(r, a), [0, size, *[0] * 9, last])
                self.assertEqual(storep(TURNED_ROUNDING[r], minus(a)), [0, size, *[0] * 8, 0x80, last])


class TooManyBits(unittest.TestCase):
    def test_refused(self):
        for bits in TOO_MANY:
            for r in ROUNDINGS:
                self.assertEqual(storep(r, bits), [-1])

    def test_eighty_bits_are_not_too_many(self):
        self.assertEqual(storep(0, (1 << 80) - 1), [0, *NO_PACKED, 1])


class ManyOfThem(unittest.TestCase):
    def assert_told(self, r, a):
        told, asked = storep(r, a), told_by_storep(r, a)
        if told != asked:
            self.fail(f"storep({r}, {a:#x}): {hexed(told)}, asked {hexed(asked)}")

    def test_every_exponent(self):
        stream = Stream(57)
        for exponent_bits in (0, 1, *range(0x3FFF - 3, 0x3FFF + 64), 0x7FFE, 0x7FFF):
            for significand in (0, 1, HIGH, HIGH + 1, 0xC000000000000000, ALL - 1, ALL, stream.significand()):
                for s in (0, 0x8000):
                    for r in ROUNDINGS:
                        self.assert_told(r, ext(exponent_bits | s, significand))

    def test_many(self):
        stream = Stream(58)
        for _ in range(4000):
            self.assert_told(stream.pick(ROUNDINGS), stream.finite(0x3FFC, 0x3FFF + 60))

    def test_halves(self):
        stream = Stream(59)
        for _ in range(1500):
            x = (stream.bits(1 + stream.below(59)) + HALF) * stream.pick((1, -1))
            for r in ROUNDINGS:
                self.assert_told(r, floats_bits(x))


class BothWays(unittest.TestCase):
    """U6."""

    def test_loaded_and_stored_again(self):
        stream = Stream(60)
        drawn = [[stream.below(10) | stream.below(10) << 4 for _ in range(9)] for _ in range(600)]
        for digits in [NOUGHT, [0x99] * 9, *drawn]:
            for last in (0x00, 0x80):
                for r in ROUNDINGS:
                    told = storep(r, loadp(digits + [last])[1])
                    self.assertEqual(told, [0, *digits, last, 0])

    def test_bits_of_the_last_byte_that_count_for_nothing(self):
        for last in range(256):
            told = storep(0, loadp([0x21, *[0] * 8, last])[1])
            self.assertEqual(told, [0, 0x21, *[0] * 8, last & 0x80, 0])

    def test_stored_and_loaded_again(self):
        stream = Stream(61)
        drawn = [stream.bits(1 + stream.below(59)) for _ in range(600)]
        for size in [0, 1, 10, 99, 100, MOST_PACKED - 1, MOST_PACKED, *drawn]:
            for s in (0, 1):
                number = floats_bits(-size if s else size, s)
                for r in ROUNDINGS:
                    told = storep(r, number)
                    self.assertEqual(told[11], 0)
                    self.assertEqual(loadp(told[1:11]), [0, number])

    def test_what_is_no_packed_number_is_not_loaded(self):
        self.assertEqual(loadp(storep(0, PLUS_INF)[1:11]), [-2])


if __name__ == "__main__":
    unittest.main()
