"""Came in: odd, quiet and loud operands, and the order of what is asked of the operands."""

import unittest

from tests.support import (
    ADD, DIV, EMPTY, EXTRACT, GREATEST, HIGH, LEAST, LOUD, MINUS_INF, MINUS_ONE, MUL, NEARLY_SMALL, ODD_ONES, ONE,
    PLUS_INF, PLUS_ZERO, PREM, PREM1, QUIET, RINT, SCALE, SQRT, SUB, ext, minus)
from wideunit.unit import one, two

CALCULATING = (ADD, SUB, MUL, DIV, PREM, PREM1, SCALE)
ORDINARY = (PLUS_ZERO, minus(PLUS_ZERO), LEAST, NEARLY_SMALL, ONE, MINUS_ONE, GREATEST, PLUS_INF, MINUS_INF)
QUIETED = LOUD | 1 << 62


def answer(op, bits, flags):
    return [0, bits, 0, flags] if op in (PREM, PREM1) else [0, bits, flags]


class OfTwo(unittest.TestCase):
    def assert_comes(self, a, b, bits, flags):
        for op in CALCULATING:
            for q, r in ((64, 0), (24, 1), (53, 2), (24, 3)):
                with self.subTest(op=op, q=q, r=r, a=hex(a), b=hex(b)):
                    self.assertEqual(two(op, q, r, a, b), answer(op, bits, flags))

    def assert_comes_either_way(self, a, b, bits, flags):
        self.assert_comes(a, b, bits, flags)
        self.assert_comes(b, a, bits, flags)

    def test_odd_before_all(self):
        for odd in ODD_ONES:
            for other in ORDINARY + (QUIET, LOUD, minus(QUIET), odd):
                self.assert_comes_either_way(odd, other, EMPTY, 1)
                self.assert_comes_either_way(minus(odd), other, EMPTY, 1)

    def test_quiet_with_a_number(self):
        for other in ORDINARY:
            self.assert_comes_either_way(QUIET, other, QUIET, 0)
            self.assert_comes_either_way(minus(QUIET), other, minus(QUIET), 0)

    def test_loud_with_a_number(self):
        for other in ORDINARY:
            self.assert_comes_either_way(LOUD, other, QUIETED, 1)
            self.assert_comes_either_way(minus(LOUD), other, minus(QUIETED), 1)

    def test_quiet_and_loud(self):
        low_quiet, high_loud = ext(0x7FFF, 0xC000000000000000), ext(0x7FFF, 0xBFFFFFFFFFFFFFFF)
        for quiet in (low_quiet, minus(low_quiet)):
            for loud in (LOUD, minus(LOUD), high_loud, minus(high_loud)):
                self.assert_comes_either_way(quiet, loud, quiet, 1)

    def test_two_quiet_ones(self):
        greater = QUIET + 1
        self.assert_comes_either_way(QUIET, greater, greater, 0)
        self.assert_comes_either_way(QUIET, minus(greater), minus(greater), 0)
        self.assert_comes_either_way(minus(QUIET), greater, greater, 0)
        self.assert_comes_either_way(QUIET, minus(QUIET), QUIET, 0)
        self.assert_comes(minus(QUIET), minus(QUIET), minus(QUIET), 0)

    def test_two_loud_ones(self):
        greater = LOUD + 1
        self.assert_comes_either_way(LOUD, greater, QUIETED + 1, 1)
        self.assert_comes_either_way(LOUD, minus(greater), minus(QUIETED + 1), 1)
        self.assert_comes_either_way(LOUD, minus(LOUD), QUIETED, 1)
        self.assert_comes(minus(LOUD), minus(LOUD), minus(QUIETED), 1)

    def test_every_bit_below_is_kept(self):
        loud = ext(0xFFFF, 0xA5A5A5A5A5A5A5A5)
        self.assert_comes_either_way(loud, ONE, ext(0xFFFF, 0xE5A5A5A5A5A5A5A5), 1)


class OfOne(unittest.TestCase):
    def assert_comes(self, a, bits, flags):
        for q, r in ((64, 0), (24, 1), (53, 2), (24, 3)):
            self.assertEqual(one(SQRT, q, r, a), [0, bits, flags])
            self.assertEqual(one(RINT, q, r, a), [0, bits, flags])
            self.assertEqual(one(EXTRACT, q, r, a), [0, bits, bits, flags])

    def test_odd(self):
        for odd in ODD_ONES:
            self.assert_comes(odd, EMPTY, 1)
            self.assert_comes(minus(odd), EMPTY, 1)

    def test_quiet(self):
        self.assert_comes(QUIET, QUIET, 0)
        self.assert_comes(minus(QUIET), minus(QUIET), 0)

    def test_loud(self):
        self.assert_comes(LOUD, QUIETED, 1)
        self.assert_comes(minus(LOUD), minus(QUIETED), 1)


class Order(unittest.TestCase):
    """What is asked first decides, and flags 1 and 4 stand alone."""

    def test_invalid_leaves_no_small_flag(self):
        for small in (LEAST, NEARLY_SMALL):
            self.assertEqual(one(SQRT, 64, 0, minus(small)), [0, EMPTY, 1])
            for op in (PREM, PREM1):
                self.assertEqual(two(op, 64, 0, small, PLUS_ZERO), [0, EMPTY, 0, 1])
                self.assertEqual(two(op, 64, 0, PLUS_INF, small), [0, EMPTY, 0, 1])

    def test_divided_by_zero_leaves_no_small_flag(self):
        for small in (LEAST, NEARLY_SMALL):
            self.assertEqual(two(DIV, 64, 0, small, PLUS_ZERO), [0, PLUS_INF, 4])

    def test_quiet_leaves_no_small_flag(self):
        for small in (LEAST, NEARLY_SMALL):
            self.assertEqual(two(MUL, 64, 0, small, QUIET), [0, QUIET, 0])

    def test_quiet_by_zero_divides_nothing(self):
        self.assertEqual(two(DIV, 64, 0, QUIET, PLUS_ZERO), [0, QUIET, 0])

    def test_small_flag_of_either_operand(self):
        for small in (LEAST, minus(LEAST), NEARLY_SMALL, minus(NEARLY_SMALL)):
            self.assertEqual(two(ADD, 64, 0, small, PLUS_INF), [0, PLUS_INF, 2])
            self.assertEqual(two(ADD, 64, 0, PLUS_INF, small), [0, PLUS_INF, 2])
            self.assertEqual(two(MUL, 64, 0, PLUS_ZERO, small)[2], 2)
            self.assertEqual(two(DIV, 64, 0, small, PLUS_INF)[2], 2)
            self.assertEqual(two(DIV, 64, 0, PLUS_INF, small)[2], 2)
            self.assertEqual(two(PREM, 64, 0, PLUS_ZERO, small), [0, PLUS_ZERO, 0, 2])
            self.assertEqual(two(SCALE, 64, 0, ONE, small), [0, ONE, 2])
            self.assertEqual(two(SCALE, 64, 0, small, PLUS_INF)[2], 2)

    def test_small_flag_stands_once_beside_the_results_flags(self):
        self.assertEqual(two(ADD, 64, 0, ONE, LEAST), [0, ONE, 34])
        self.assertEqual(two(ADD, 64, 2, ONE, LEAST), [0, ext(0x3FFF, HIGH + 1), 162])
        self.assertEqual(two(ADD, 64, 0, LEAST, LEAST), [0, ext(0x0000, 2), 2])
        self.assertEqual(two(MUL, 64, 0, LEAST, LEAST), [0, PLUS_ZERO, 50])
        self.assertEqual(two(MUL, 64, 2, LEAST, LEAST), [0, LEAST, 178])
        self.assertEqual(two(DIV, 64, 0, GREATEST, LEAST), [0, PLUS_INF, 170])
        self.assertEqual(two(DIV, 64, 3, GREATEST, LEAST), [0, GREATEST, 42])


if __name__ == "__main__":
    unittest.main()
