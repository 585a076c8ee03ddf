"""com, ucom, tst, xam, abs and chs."""

import unittest

from tests.support import (
    ABS, ALL, CHS, COM, GREATEST, GREATEST_SMALL, HIGH, LEAST, LEAST_NORMAL, LOUD, MINUS_INF, MINUS_ONE, MINUS_ZERO,
    NEARLY_SMALL, ODD_ONES, ONE, PLUS_INF, PLUS_ZERO, PRECISIONS, QUIET, ROUNDINGS, TST, UCOM, XAM, Stream, ext, minus,
    value)
from wideunit.unit import one, two

ABOVE, BELOW, EQUAL, APART = 0, 1, 8, 13
# From the lowest value to the highest, each one above the one before it.
LADDER = (
    MINUS_INF, minus(GREATEST), ext(0xFFFE, HIGH), ext(0xBFFF, ALL), ext(0xBFFF, HIGH + 1), MINUS_ONE,
    ext(0xBFFE, ALL), ext(0x8002, HIGH), ext(0x8001, HIGH + 1), minus(LEAST_NORMAL), minus(GREATEST_SMALL),
    ext(0x8000, 2), minus(LEAST), PLUS_ZERO, LEAST, ext(0x0000, 2), GREATEST_SMALL, LEAST_NORMAL,
    ext(0x0000, HIGH + 1), ext(0x0001, HIGH + 2), ext(0x0000, ALL), ext(0x0002, HIGH), ext(0x3FFE, ALL), ONE,
    ext(0x3FFF, HIGH + 1), ext(0x4000, HIGH), ext(0x7FFE, HIGH), GREATEST, PLUS_INF)


def small_flag(*operands):
    return 2 if any(x & (1 << 79) - 1 <= ALL and x & ALL for x in operands) else 0


class Compared(unittest.TestCase):
    def assert_told(self, a, b, bits, com_flags, ucom_flags):
        for q in PRECISIONS:
            for r in ROUNDINGS:
                with self.subTest(q=q, r=r, a=hex(a), b=hex(b)):
                    self.assertEqual(two(COM, q, r, a, b), [0, bits, com_flags])
                    self.assertEqual(two(UCOM, q, r, a, b), [0, bits, ucom_flags])

    def test_by_values(self):
        for i, a in enumerate(LADDER):
            for j, b in enumerate(LADDER):
                bits = EQUAL if i == j else ABOVE if i > j else BELOW
                flags = small_flag(a, b)
                self.assertEqual(two(COM, 64, 0, a, b), [0, bits, flags])
                self.assertEqual(two(UCOM, 64, 0, a, b), [0, bits, flags])

    def test_zeros_are_equal(self):
        for a in (PLUS_ZERO, MINUS_ZERO):
            for b in (PLUS_ZERO, MINUS_ZERO):
                self.assert_told(a, b, EQUAL, 0, 0)
            self.assert_told(a, ONE, BELOW, 0, 0)
            self.assert_told(a, MINUS_ONE, ABOVE, 0, 0)
            self.assert_told(a, minus(LEAST), ABOVE, 2, 2)

    def test_nearly_small_is_equal_to_the_normal_one(self):
        self.assert_told(NEARLY_SMALL, LEAST_NORMAL, EQUAL, 2, 2)
        self.assert_told(ext(0x8001, ALL), ext(0x8000, ALL), EQUAL, 2, 2)
        self.assert_told(NEARLY_SMALL, minus(NEARLY_SMALL), ABOVE, 2, 2)

    def test_small_beside_infinite(self):
        self.assert_told(LEAST, PLUS_INF, BELOW, 2, 2)
        self.assert_told(MINUS_INF, NEARLY_SMALL, BELOW, 2, 2)

    def test_quiet(self):
        for other in (PLUS_ZERO, LEAST, ONE, MINUS_INF, QUIET, minus(QUIET)):
            for quiet in (QUIET, minus(QUIET)):
                self.assert_told(quiet, other, APART, 1, 0)
                self.assert_told(other, quiet, APART, 1, 0)

    def test_loud_and_odd(self):
        for no_number in (LOUD, minus(LOUD)) + ODD_ONES:
            for other in (PLUS_ZERO, LEAST, ONE, MINUS_INF, QUIET, LOUD, ODD_ONES[3], no_number):
                self.assert_told(no_number, other, APART, 1, 1)
                self.assert_told(other, no_number, APART, 1, 1)

    def test_as_the_values_of_many(self):
        stream = Stream(9)
        for _ in range(500):
            a = stream.finite()
            near = min(max((a >> 64 & 0x7FFF) + stream.below(3) - 1, 0), 0x7FFE)
            b = stream.finite(near, near)
            bits = EQUAL if value(a) == value(b) else ABOVE if value(a) > value(b) else BELOW
            self.assertEqual(two(COM, 64, 0, a, b), [0, bits, small_flag(a, b)])


class Tested(unittest.TestCase):
    def assert_told(self, a, bits, flags):
        for q in PRECISIONS:
            for r in ROUNDINGS:
                self.assertEqual(one(TST, q, r, a), [0, bits, flags])

    def test_numbers(self):
        self.assert_told(PLUS_ZERO, EQUAL, 0)
        self.assert_told(MINUS_ZERO, EQUAL, 0)
        for a in (LEAST_NORMAL, ONE, GREATEST, PLUS_INF):
            self.assert_told(a, ABOVE, 0)
            self.assert_told(minus(a), BELOW, 0)
        for a in (LEAST, GREATEST_SMALL, NEARLY_SMALL):
            self.assert_told(a, ABOVE, 2)
            self.assert_told(minus(a), BELOW, 2)

    def test_no_numbers(self):
        for a in (QUIET, LOUD) + ODD_ONES:
            self.assert_told(a, APART, 1)
            self.assert_told(minus(a), APART, 1)


class Examined(unittest.TestCase):
    def test_every_kind(self):
        kinds = (
            (0, ODD_ONES), (1, (QUIET, LOUD, ext(0x7FFF, ALL), ext(0x7FFF, HIGH + 1))),
            (4, (LEAST_NORMAL, ONE, GREATEST, ext(0x7FFE, HIGH))), (5, (PLUS_INF,)), (8, (PLUS_ZERO,)),
            (12, (LEAST, GREATEST_SMALL, NEARLY_SMALL, ext(0x0000, ALL))))
        for bits, ones in kinds:
            for a in ones:
                for q in PRECISIONS:
                    for r in ROUNDINGS:
                        self.assertEqual(one(XAM, q, r, a), [0, bits, 0])
                        self.assertEqual(one(XAM, q, r, minus(a)), [0, bits + 2, 0])


class Signs(unittest.TestCase):
    def test_whatever_it_is(self):
        for plus in ODD_ONES + (QUIET, LOUD, PLUS_ZERO, PLUS_INF, LEAST, NEARLY_SMALL, ONE, GREATEST, ext(0x0000, ALL)):
            for q in PRECISIONS:
                for r in ROUNDINGS:
                    self.assertEqual(one(ABS, q, r, plus), [0, plus, 0])
                    self.assertEqual(one(ABS, q, r, minus(plus)), [0, plus, 0])
                    self.assertEqual(one(CHS, q, r, plus), [0, minus(plus), 0])
                    self.assertEqual(one(CHS, q, r, minus(plus)), [0, plus, 0])


if __name__ == "__main__":
    unittest.main()
