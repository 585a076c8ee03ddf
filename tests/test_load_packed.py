"""loadp: ten bytes of decimal digits taken in exactly, and a digit above 9 refused in each place."""

import unittest

from tests.support import (
    HIGH, MINUS_ONE, MINUS_ZERO, ONE, PLUS_ZERO, Stream, ext, floats_bits, minus, told_by_loadp, value)
from wideunit.unit import loadp

NOUGHT = [0] * 9
NINES = [0x99] * 9
PLUS_BYTES = (0x00, 0x01, 0x0A, 0x40, 0x55, 0x7F)
MINUS_BYTES = (0x80, 0x81, 0x8F, 0xAA, 0xC0, 0xFF)


def with_digit(digits, place, digit):
    """The nine bytes with another digit in the place, counted from the lowest on."""
    changed = list(digits)
    shift = 4 * (place % 2)
    changed[place // 2] = changed[place // 2] & ~(15 << shift) | digit << shift
    return changed


class WrittenOut(unittest.TestCase):
    def test_zero_of_either_sign(self):
        for last in PLUS_BYTES:
            self.assertEqual(loadp(NOUGHT + [last]), [0, PLUS_ZERO])
        for last in MINUS_BYTES:
            self.assertEqual(loadp(NOUGHT + [last]), [0, MINUS_ZERO])

    def test_one(self):
        self.assertEqual(loadp([1, 0, 0, 0, 0, 0, 0, 0, 0, 0]), [0, ONE])
        self.assertEqual(loadp([1, 0, 0, 0, 0, 0, 0, 0, 0, 0x80]), [0, MINUS_ONE])

    def test_the_examples_number(self):
        number = ext(0xC009, 0x9A40000000000000)
        self.assertEqual(loadp([0x34, 0x12, 0, 0, 0, 0, 0, 0, 0, 0x80]), [0, number])
        self.assertEqual(loadp([0x34, 0x12, 0, 0, 0, 0, 0, 0, 0, 0x00]), [0, minus(number)])

    def test_the_greatest(self):
        number = ext(0x403A, 0xDE0B6B3A763FFFF0)
        self.assertEqual(value(number), 10 ** 18 - 1)
        for last in PLUS_BYTES:
            self.assertEqual(loadp(NINES + [last]), [0, number])
        for last in MINUS_BYTES:
            self.assertEqual(loadp(NINES + [last]), [0, minus(number)])

    def test_all_digits_in_order(self):
        packed = [0x78, 0x56, 0x34, 0x12, 0x90, 0x78, 0x56, 0x34, 0x12]
        self.assertEqual(value(loadp(packed + [0])[1]), 123456789012345678)
        self.assertEqual(value(loadp(packed + [0x80])[1]), -123456789012345678)

    def test_a_power_of_two(self):
        # 2^59 is 576460752303423488.
        packed = [0x88, 0x34, 0x42, 0x03, 0x23, 0x75, 0x60, 0x64, 0x57, 0x00]
        self.assertEqual(loadp(packed), [0, ext(0x3FFF + 59, HIGH)])


class Places(unittest.TestCase):
    def test_each_digit_in_each_place(self):
        for place in range(18):
            for digit in range(10):
                packed = with_digit(NOUGHT, place, digit)
                self.assertEqual(loadp(packed + [0]), [0, floats_bits(digit * 10 ** place)])
                size = 10 ** 18 - 1 - (9 - digit) * 10 ** place
                self.assertEqual(loadp(with_digit(NINES, place, digit) + [0x80]), [0, floats_bits(-size)])

    def test_a_digit_above_nine_in_each_place(self):
        for place in range(18):
            for digit in range(10, 16):
                for others in (NOUGHT, NINES):
                    for last in (0x00, 0x80, 0x7F, 0xFF):
                        self.assertEqual(loadp(with_digit(others, place, digit) + [last]), [-2])

    def test_several_digits_above_nine(self):
        self.assertEqual(loadp([0xFF] * 10), [-2])
        self.assertEqual(loadp([0xAA] * 9 + [0]), [-2])
        self.assertEqual(loadp([0, 0, 0, 0, 0, 0, 0, 0xC0, 0xFF, 0xFF]), [-2])

    def test_every_last_byte(self):
        number = floats_bits(42)
        for last in range(256):
            packed = [0x42, 0, 0, 0, 0, 0, 0, 0, 0, last]
            self.assertEqual(loadp(packed), [0, number if last < 128 else minus(number)])


class ManyOfThem(unittest.TestCase):
    def test_many(self):
        stream = Stream(44)
        for _ in range(3000):
            packed = [stream.below(10) | stream.below(10) << 4 for _ in range(9)] + [stream.bits(8)]
            told = loadp(packed)
            self.assertEqual(told, told_by_loadp(packed))
            self.assertEqual(len(told), 2)

    def test_any_bytes(self):
        stream = Stream(45)
        for _ in range(3000):
            packed = [stream.bits(8) & 0x99 for _ in range(9)] + [stream.bits(8)]
            if stream.below(2):
                packed[stream.below(9)] = stream.bits(8)
            self.assertEqual(loadp(packed), told_by_loadp(packed))


class HandedIn(unittest.TestCase):
    def test_the_list_stays_as_it_was(self):
        for packed in (NOUGHT + [0x80], NINES + [0xFF], [0xFF] * 10, [0x34, 0x12] + [0] * 7 + [0x80]):
            handed = list(packed)
            first = loadp(handed)
            self.assertEqual(handed, packed)
            self.assertIsNot(first, handed)
            self.assertEqual(loadp(handed), first)


if __name__ == "__main__":
    unittest.main()
