"""add, sub, mul, div and sqrt: zeros, infinite ones, and rounding at every edge, with the answers written out."""

import unittest

from tests.support import (
    ADD, ALL, CUT, DIV, DOWN, EMPTY, GREATEST, GREATEST_SMALL, HIGH, LEAST, LEAST_NORMAL, MINUS_INF, MINUS_ONE,
    MINUS_ZERO, MUL, NEAR, NEARLY_SMALL, ONE, PLUS_INF, PLUS_ZERO, PRECISIONS, ROUNDINGS, SQRT, SUB, UP, ext, minus)
from wideunit.unit import one, two

TWO = ext(0x4000, HIGH)
HALF = ext(0x3FFE, HIGH)
QUARTER = ext(0x3FFD, HIGH)
# The significand's last digit, by precision.
LAST = {24: 1 << 40, 53: 1 << 11, 64: 1}


def power(e):
    return ext(16383 + e, HIGH)


class ArithmeticCase(unittest.TestCase):
    def assert_told(self, op, q, a, b, by_rounding):
        """by_rounding: the result and flags for near, down, up and cut, in this order."""
        for r, told in zip(ROUNDINGS, by_rounding, strict=True):
            with self.subTest(op=op, q=q, r=r, a=hex(a), b=hex(b)):
                self.assertEqual(two(op, q, r, a, b), [0, *told])

    def assert_always(self, op, a, b, bits, flags):
        for q in PRECISIONS:
            self.assert_told(op, q, a, b, [(bits, flags)] * 4)


class Zeros(ArithmeticCase):
    def test_sum_of_zeros_of_one_sign(self):
        self.assert_always(ADD, PLUS_ZERO, PLUS_ZERO, PLUS_ZERO, 0)
        self.assert_always(ADD, MINUS_ZERO, MINUS_ZERO, MINUS_ZERO, 0)
        self.assert_always(SUB, PLUS_ZERO, MINUS_ZERO, PLUS_ZERO, 0)
        self.assert_always(SUB, MINUS_ZERO, PLUS_ZERO, MINUS_ZERO, 0)

    def test_other_exact_zeros(self):
        pairs = (
            (ADD, PLUS_ZERO, MINUS_ZERO), (ADD, MINUS_ZERO, PLUS_ZERO), (SUB, PLUS_ZERO, PLUS_ZERO),
            (SUB, MINUS_ZERO, MINUS_ZERO), (ADD, ONE, MINUS_ONE), (ADD, MINUS_ONE, ONE), (SUB, ONE, ONE),
            (SUB, MINUS_ONE, MINUS_ONE), (SUB, GREATEST, GREATEST))
        for op, a, b in pairs:
            for q in PRECISIONS:
                told = [(PLUS_ZERO, 0), (MINUS_ZERO, 0), (PLUS_ZERO, 0), (PLUS_ZERO, 0)]
                self.assert_told(op, q, a, b, told)

    def test_exact_zero_of_small_ones(self):
        for q in PRECISIONS:
            told = [(PLUS_ZERO, 2), (MINUS_ZERO, 2), (PLUS_ZERO, 2), (PLUS_ZERO, 2)]
            self.assert_told(SUB, q, LEAST, LEAST, told)
            self.assert_told(SUB, q, NEARLY_SMALL, LEAST_NORMAL, told)

    def test_zero_and_a_number(self):
        for zero in (PLUS_ZERO, MINUS_ZERO):
            self.assert_always(ADD, zero, ONE, ONE, 0)
            self.assert_always(ADD, MINUS_ONE, zero, MINUS_ONE, 0)
            self.assert_always(SUB, zero, ONE, MINUS_ONE, 0)
            self.assert_always(SUB, ONE, zero, ONE, 0)

    def test_zero_and_a_number_that_is_rounded(self):
        told = [(TWO, 160), (ext(0x3FFF, ALL - LAST[24] + 1), 32), (TWO, 160), (ext(0x3FFF, ALL - LAST[24] + 1), 32)]
        self.assert_told(ADD, 24, PLUS_ZERO, ext(0x3FFF, ALL), told)
        self.assert_told(ADD, 24, ext(0x3FFF, ALL), MINUS_ZERO, told)

    def test_zero_and_a_nearly_small_one(self):
        self.assert_always(ADD, PLUS_ZERO, NEARLY_SMALL, LEAST_NORMAL, 2)
        self.assert_always(SUB, PLUS_ZERO, NEARLY_SMALL, minus(LEAST_NORMAL), 2)

    def test_products_and_quotients_of_zeros(self):
        for a, b, zero in ((PLUS_ZERO, ONE, PLUS_ZERO), (PLUS_ZERO, MINUS_ONE, MINUS_ZERO),
                           (MINUS_ZERO, ONE, MINUS_ZERO), (MINUS_ZERO, MINUS_ONE, PLUS_ZERO)):
            self.assert_always(MUL, a, b, zero, 0)
            self.assert_always(MUL, b, a, zero, 0)
            self.assert_always(DIV, a, b, zero, 0)
        self.assert_always(MUL, PLUS_ZERO, MINUS_ZERO, MINUS_ZERO, 0)
        self.assert_always(MUL, MINUS_ZERO, MINUS_ZERO, PLUS_ZERO, 0)


class InfiniteOnes(ArithmeticCase):
    def test_sums(self):
        for inf in (PLUS_INF, MINUS_INF):
            for other in (PLUS_ZERO, ONE, MINUS_ONE, GREATEST, inf):
                self.assert_always(ADD, inf, other, inf, 0)
                self.assert_always(ADD, other, inf, inf, 0)
            for other in (MINUS_ZERO, ONE, MINUS_ONE, GREATEST, minus(inf)):
                self.assert_always(SUB, inf, other, inf, 0)
                self.assert_always(SUB, other, inf, minus(inf), 0)

    def test_invalid_sums(self):
        self.assert_always(ADD, PLUS_INF, MINUS_INF, EMPTY, 1)
        self.assert_always(ADD, MINUS_INF, PLUS_INF, EMPTY, 1)
        self.assert_always(SUB, PLUS_INF, PLUS_INF, EMPTY, 1)
        self.assert_always(SUB, MINUS_INF, MINUS_INF, EMPTY, 1)

    def test_products(self):
        for a, b, inf in ((PLUS_INF, ONE, PLUS_INF), (PLUS_INF, MINUS_ONE, MINUS_INF), (MINUS_INF, ONE, MINUS_INF),
                          (MINUS_INF, MINUS_ONE, PLUS_INF), (PLUS_INF, MINUS_INF, MINUS_INF),
                          (MINUS_INF, MINUS_INF, PLUS_INF)):
            self.assert_always(MUL, a, b, inf, 0)
            self.assert_always(MUL, b, a, inf, 0)

    def test_invalid_products(self):
        for zero in (PLUS_ZERO, MINUS_ZERO):
            for inf in (PLUS_INF, MINUS_INF):
                self.assert_always(MUL, zero, inf, EMPTY, 1)
                self.assert_always(MUL, inf, zero, EMPTY, 1)

    def test_quotients(self):
        self.assert_always(DIV, PLUS_INF, ONE, PLUS_INF, 0)
        self.assert_always(DIV, PLUS_INF, MINUS_ONE, MINUS_INF, 0)
        self.assert_always(DIV, MINUS_INF, PLUS_ZERO, MINUS_INF, 0)
        self.assert_always(DIV, MINUS_INF, MINUS_ZERO, PLUS_INF, 0)
        self.assert_always(DIV, ONE, MINUS_INF, MINUS_ZERO, 0)
        self.assert_always(DIV, MINUS_ONE, MINUS_INF, PLUS_ZERO, 0)
        self.assert_always(DIV, PLUS_ZERO, MINUS_INF, MINUS_ZERO, 0)

    def test_invalid_quotients(self):
        for a in (PLUS_ZERO, MINUS_ZERO):
            for b in (PLUS_ZERO, MINUS_ZERO):
                self.assert_always(DIV, a, b, EMPTY, 1)
        for a in (PLUS_INF, MINUS_INF):
            for b in (PLUS_INF, MINUS_INF):
                self.assert_always(DIV, a, b, EMPTY, 1)

    def test_divided_by_zero(self):
        self.assert_always(DIV, ONE, PLUS_ZERO, PLUS_INF, 4)
        self.assert_always(DIV, ONE, MINUS_ZERO, MINUS_INF, 4)
        self.assert_always(DIV, MINUS_ONE, PLUS_ZERO, MINUS_INF, 4)
        self.assert_always(DIV, minus(GREATEST), MINUS_ZERO, PLUS_INF, 4)


class Halfway(ArithmeticCase):
    def test_halfway_above_an_even_one(self):
        for q in PRECISIONS:
            half_last = power(-q)
            higher = ext(0x3FFF, HIGH + LAST[q])
            self.assert_told(ADD, q, ONE, half_last, [(ONE, 32), (ONE, 32), (higher, 160), (ONE, 32)])
            told = [(MINUS_ONE, 32), (minus(higher), 160), (MINUS_ONE, 32), (MINUS_ONE, 32)]
            self.assert_told(SUB, q, MINUS_ONE, half_last, told)

    def test_halfway_above_an_odd_one(self):
        for q in PRECISIONS:
            lower, higher = ext(0x3FFF, HIGH + LAST[q]), ext(0x3FFF, HIGH + 2 * LAST[q])
            told = [(higher, 160), (lower, 32), (higher, 160), (lower, 32)]
            self.assert_told(ADD, q, lower, power(-q), told)
            told = [(minus(higher), 160), (minus(higher), 160), (minus(lower), 32), (minus(lower), 32)]
            self.assert_told(SUB, q, minus(lower), power(-q), told)

    def test_beside_halfway(self):
        for q in PRECISIONS:
            higher = ext(0x3FFF, HIGH + LAST[q])
            just_above, just_below = ext(0x3FFF - q, HIGH + 1), ext(0x3FFE - q, ALL)
            told = [(higher, 160), (ONE, 32), (higher, 160), (ONE, 32)]
            self.assert_told(ADD, q, ONE, just_above, told)
            told = [(ONE, 32), (ONE, 32), (higher, 160), (ONE, 32)]
            self.assert_told(ADD, q, ONE, just_below, told)

    def test_just_below_a_power_of_two(self):
        for q in PRECISIONS:
            lower = ext(0x3FFE, ALL - LAST[q] + 1)
            # Half of the finer step below 1, then a quarter of it.
            told = [(ONE, 160), (lower, 32), (ONE, 160), (lower, 32)]
            self.assert_told(SUB, q, ONE, power(-q - 1), told)
            self.assert_told(SUB, q, ONE, power(-q - 2), told)
            exact = [(lower, 0)] * 4
            self.assert_told(SUB, q, ONE, power(-q), exact)

    def test_carry_into_the_next_power(self):
        for q in PRECISIONS:
            ones = ext(0x3FFF, ALL - LAST[q] + 1)
            self.assert_told(ADD, q, ones, power(-q), [(TWO, 160), (ones, 32), (TWO, 160), (ones, 32)])
            below = power(-q - 1)
            self.assert_told(ADD, q, ones, below, [(ones, 32), (ones, 32), (TWO, 160), (ones, 32)])

    def test_halfway_products(self):
        for q in PRECISIONS:
            # (1 + u) 1.5 is 1.5 + 1.5 u: halfway between 1.5 + u and 1.5 + 2 u.
            a, b = ext(0x3FFF, HIGH + LAST[q]), ext(0x3FFF, 0xC000000000000000)
            lower, higher = b + LAST[q], b + 2 * LAST[q]
            self.assert_told(MUL, q, a, b, [(higher, 160), (lower, 32), (higher, 160), (lower, 32)])
            told = [(minus(higher), 160), (minus(higher), 160), (minus(lower), 32), (minus(lower), 32)]
            self.assert_told(MUL, q, minus(a), b, told)

    def test_quotient_just_below_a_power_of_two(self):
        for q in (24, 53):
            # 1 / (1 + 2^-63) lies below 1 by less than half a step.
            lower = ext(0x3FFE, ALL - LAST[q] + 1)
            told = [(ONE, 160), (lower, 32), (ONE, 160), (lower, 32)]
            self.assert_told(DIV, q, ONE, ext(0x3FFF, HIGH + 1), told)

    def test_operands_are_not_rounded_first(self):
        fine = ext(0x3FFF, HIGH + 1)
        self.assert_always(SUB, fine, ONE, power(-63), 0)
        self.assert_told(MUL, 24, fine, fine, [(ONE, 32), (ONE, 32), (ext(0x3FFF, HIGH + LAST[24]), 160), (ONE, 32)])


class FarApart(ArithmeticCase):
    def test_great_and_least(self):
        before = ext(0x7FFE, ALL - 1)
        self.assert_told(ADD, 64, GREATEST, LEAST, [(GREATEST, 34), (GREATEST, 34), (PLUS_INF, 170), (GREATEST, 34)])
        told = [(GREATEST, 162), (before, 34), (GREATEST, 162), (before, 34)]
        self.assert_told(SUB, 64, GREATEST, LEAST, told)
        self.assert_told(ADD, 64, minus(LEAST), GREATEST, told)
        told = [(minus(GREATEST), 162), (minus(GREATEST), 162), (minus(before), 34), (minus(before), 34)]
        self.assert_told(SUB, 64, LEAST, GREATEST, told)

    def test_one_and_the_least_normal_one(self):
        below = ext(0x3FFE, ALL)
        told = [(ONE, 160), (below, 32), (ONE, 160), (below, 32)]
        self.assert_told(SUB, 64, ONE, LEAST_NORMAL, told)
        higher = ext(0x3FFF, HIGH + 1)
        self.assert_told(ADD, 64, LEAST_NORMAL, ONE, [(ONE, 32), (ONE, 32), (higher, 160), (ONE, 32)])


class OverflowEdges(ArithmeticCase):
    def greatest(self, q):
        return ext(0x7FFE, ALL - LAST[q] + 1)

    def test_to_infinite_or_the_greatest(self):
        for q in PRECISIONS:
            greatest = self.greatest(q)
            told = [(PLUS_INF, 168), (greatest, 40), (PLUS_INF, 168), (greatest, 40)]
            self.assert_told(MUL, q, GREATEST, GREATEST, told)
            self.assert_told(ADD, q, GREATEST, GREATEST, told)
            self.assert_told(DIV, q, GREATEST, HALF, told)
            told = [(MINUS_INF, 168), (MINUS_INF, 168), (minus(greatest), 40), (minus(greatest), 40)]
            self.assert_told(MUL, q, GREATEST, minus(GREATEST), told)
            self.assert_told(SUB, q, minus(GREATEST), GREATEST, told)

    def test_just_at_the_edge(self):
        for q in PRECISIONS:
            greatest, half_last = self.greatest(q), power(16383 - q)
            told = [(PLUS_INF, 168), (greatest, 32), (PLUS_INF, 168), (greatest, 32)]
            self.assert_told(ADD, q, greatest, half_last, told)
            below_half = ext(16383 + 16382 - q, ALL)
            told = [(greatest, 32), (greatest, 32), (PLUS_INF, 168), (greatest, 32)]
            self.assert_told(ADD, q, greatest, below_half, told)

    def test_exactly_the_power_beyond(self):
        for q in PRECISIONS:
            greatest, last = self.greatest(q), power(16384 - q)
            told = [(PLUS_INF, 168), (greatest, 40), (PLUS_INF, 168), (greatest, 40)]
            self.assert_told(ADD, q, greatest, last, told)
            self.assert_told(MUL, q, power(16383), TWO, told)

    def test_greatest_is_no_overflow(self):
        for q in PRECISIONS:
            self.assert_told(MUL, q, self.greatest(q), ONE, [(self.greatest(q), 0)] * 4)
        self.assert_always(MUL, power(16382), TWO, power(16383), 0)

    def test_greatest_of_sixty_four_digits_by_fewer(self):
        for q in (24, 53):
            greatest = self.greatest(q)
            told = [(PLUS_INF, 168), (greatest, 32), (PLUS_INF, 168), (greatest, 32)]
            self.assert_told(ADD, q, GREATEST, PLUS_ZERO, told)


class UnderflowEdges(ArithmeticCase):
    def test_exact_small_results_have_no_flags(self):
        self.assert_always(MUL, LEAST_NORMAL, HALF, ext(0x0000, HIGH >> 1), 0)
        self.assert_always(SUB, ext(0x0001, HIGH + (HIGH >> 1)), LEAST_NORMAL, ext(0x0000, HIGH >> 1), 0)
        self.assert_told(DIV, 64, ext(0x0001, HIGH + 2), TWO, [(ext(0x0000, (HIGH >> 1) + 1), 0)] * 4)

    def test_halfway_between_small_ones(self):
        even, odd = ext(0x0000, HIGH >> 1), ext(0x0000, (HIGH >> 1) + 1)
        told = [(even, 48), (even, 48), (odd, 176), (even, 48)]
        self.assert_told(MUL, 64, ext(0x0001, HIGH + 1), HALF, told)
        higher = ext(0x0000, (HIGH >> 1) + 2)
        told = [(higher, 176), (odd, 48), (higher, 176), (odd, 48)]
        self.assert_told(MUL, 64, ext(0x0001, HIGH + 3), HALF, told)

    def test_multiples_by_precision(self):
        # By 24 digits small results are multiples of 2^(-16382 - 23).
        step = {24: 1 << 40, 53: 1 << 11}
        for q in (24, 53):
            x = ext(0x0000, 5 * step[q] + step[q] // 2)
            lower, higher = ext(0x0000, 5 * step[q]), ext(0x0000, 6 * step[q])
            told = [(higher, 178), (lower, 50), (higher, 178), (lower, 50)]
            self.assert_told(ADD, q, x, PLUS_ZERO, told)
            told = [(minus(higher), 178), (minus(higher), 178), (minus(lower), 50), (minus(lower), 50)]
            self.assert_told(SUB, q, PLUS_ZERO, x, told)
            exact = ext(0x0000, 7 * step[q])
            self.assert_told(ADD, q, exact, PLUS_ZERO, [(exact, 2)] * 4)

    def test_to_zero_or_the_least(self):
        for q in PRECISIONS:
            least = ext(0x0000, LAST[q])
            told = [(PLUS_ZERO, 48), (PLUS_ZERO, 48), (least, 176), (PLUS_ZERO, 48)]
            self.assert_told(MUL, q, LEAST_NORMAL, LEAST_NORMAL, told)
            self.assert_told(DIV, q, LEAST_NORMAL, GREATEST, told)
            told = [(MINUS_ZERO, 48), (minus(least), 176), (MINUS_ZERO, 48), (MINUS_ZERO, 48)]
            self.assert_told(MUL, q, minus(LEAST_NORMAL), LEAST_NORMAL, told)

    def test_half_of_the_least(self):
        self.assert_told(MUL, 64, LEAST, HALF, [(PLUS_ZERO, 50), (PLUS_ZERO, 50), (LEAST, 178), (PLUS_ZERO, 50)])
        three_quarters = ext(0x3FFE, 0xC000000000000000)
        told = [(LEAST, 178), (PLUS_ZERO, 50), (LEAST, 178), (PLUS_ZERO, 50)]
        self.assert_told(MUL, 64, LEAST, three_quarters, told)
        self.assert_told(MUL, 64, LEAST, QUARTER, [(PLUS_ZERO, 50), (PLUS_ZERO, 50), (LEAST, 178), (PLUS_ZERO, 50)])

    def test_rounded_up_to_the_least_normal_one(self):
        # (2 - 2^-63) 2^-16383 is halfway: to 64 digits it is itself, below 2^-16382, so it underflows.
        told = [(LEAST_NORMAL, 176), (GREATEST_SMALL, 48), (LEAST_NORMAL, 176), (GREATEST_SMALL, 48)]
        self.assert_told(MUL, 64, ext(0x0001, ALL), HALF, told)

    def test_no_underflow_if_the_digits_carry_it_over(self):
        # Below 2^-16382 by less than half of the finer step: near and up, it isn't below any more.
        x, y = ext(0x0001, HIGH), ext(0x3FFE, ALL)
        told = [(LEAST_NORMAL, 176), (GREATEST_SMALL, 48), (LEAST_NORMAL, 176), (GREATEST_SMALL, 48)]
        self.assert_told(MUL, 64, x, y, told)
        for q in (24, 53):
            below = ext(0x0000, HIGH - LAST[q])
            told = [(LEAST_NORMAL, 160), (below, 48), (LEAST_NORMAL, 160), (below, 48)]
            self.assert_told(MUL, q, x, y, told)
        # (1 + 2^-63) (1 - 2^-63) is 1 - 2^-126.
        told = [(LEAST_NORMAL, 160), (GREATEST_SMALL, 48), (LEAST_NORMAL, 160), (GREATEST_SMALL, 48)]
        self.assert_told(MUL, 64, ext(0x0001, HIGH + 1), ext(0x3FFE, ALL - 1), told)
        told = [(minus(LEAST_NORMAL), 160), (minus(LEAST_NORMAL), 160), (minus(GREATEST_SMALL), 48),
                (minus(GREATEST_SMALL), 48)]
        self.assert_told(MUL, 64, ext(0x8001, HIGH + 1), ext(0x3FFE, ALL - 1), told)

    def test_rounded_once_not_twice(self):
        # Half of the least one and a little: to 64 digits first it would be halfway, and then go to zero.
        told = [(LEAST, 176), (PLUS_ZERO, 48), (LEAST, 176), (PLUS_ZERO, 48)]
        self.assert_told(MUL, 64, ext(0x1FFF, HIGH + 1), ext(0x1FC0, ALL), told)
        # One and a half of it less a little: likewise it would go to two of it.
        told = [(LEAST, 48), (LEAST, 48), (ext(0x0000, 2), 176), (LEAST, 48)]
        self.assert_told(MUL, 64, ext(0x1FFF, 0xC000000000000003), ext(0x1FC1, ALL - 3), told)
        half = [(PLUS_ZERO, 48), (PLUS_ZERO, 48), (LEAST, 176), (PLUS_ZERO, 48)]
        self.assert_told(MUL, 64, ext(0x1FFF, HIGH), ext(0x1FC1, HIGH), half)


class Roots(unittest.TestCase):
    def assert_told(self, q, a, by_rounding):
        for r, told in zip(ROUNDINGS, by_rounding, strict=True):
            with self.subTest(q=q, r=r, a=hex(a)):
                self.assertEqual(one(SQRT, q, r, a), [0, *told])

    def assert_always(self, a, bits, flags):
        for q in PRECISIONS:
            self.assert_told(q, a, [(bits, flags)] * 4)

    def test_exact(self):
        self.assert_always(ONE, ONE, 0)
        self.assert_always(ext(0x4001, HIGH), TWO, 0)
        self.assert_always(QUARTER, HALF, 0)
        self.assert_always(ext(0x4000, 0x9000000000000000), ext(0x3FFF, 0xC000000000000000), 0)
        self.assert_always(power(16382), power(8191), 0)
        self.assert_always(LEAST_NORMAL, power(-8191), 0)
        self.assert_always(ext(0x0000, 2), power(-8222), 2)
        self.assert_always(NEARLY_SMALL, power(-8191), 2)

    def test_zero_and_infinite(self):
        self.assert_always(PLUS_ZERO, PLUS_ZERO, 0)
        self.assert_always(MINUS_ZERO, MINUS_ZERO, 0)
        self.assert_always(PLUS_INF, PLUS_INF, 0)

    def test_below_zero(self):
        for a in (MINUS_ONE, MINUS_INF, minus(LEAST), minus(NEARLY_SMALL), minus(GREATEST)):
            self.assert_always(a, EMPTY, 1)

    def test_root_of_two(self):
        low, high = ext(0x3FFF, 0xB504F333F9DE6484), ext(0x3FFF, 0xB504F333F9DE6485)
        self.assert_told(64, TWO, [(low, 32), (low, 32), (high, 160), (low, 32)])
        low, high = ext(0x3FFF, 0xB504F333F9DE6000), ext(0x3FFF, 0xB504F333F9DE6800)
        self.assert_told(53, TWO, [(high, 160), (low, 32), (high, 160), (low, 32)])
        low, high = ext(0x3FFF, 0xB504F30000000000), ext(0x3FFF, 0xB504F40000000000)
        self.assert_told(24, TWO, [(low, 32), (low, 32), (high, 160), (low, 32)])

    def test_beside_one(self):
        # The root of 1 + 2^-63 lies just below halfway to the next one.
        higher = ext(0x3FFF, HIGH + 1)
        self.assert_told(64, higher, [(ONE, 32), (ONE, 32), (higher, 160), (ONE, 32)])
        below = ext(0x3FFE, ALL)
        self.assert_told(64, below, [(below, 32), (below, 32), (ONE, 160), (below, 32)])
        below = ext(0x3FFE, ALL - LAST[24] + 1)
        self.assert_told(24, ext(0x3FFE, ALL), [(ONE, 160), (below, 32), (ONE, 160), (below, 32)])

    def test_halfway_roots_by_few_digits(self):
        # (1 + 2^-24) squared, 1 + 2^-23 + 2^-48, which sixty-four digits still hold.
        square = ext(0x3FFF, HIGH + (1 << 40) + (1 << 15))
        higher = ext(0x3FFF, HIGH + LAST[24])
        self.assert_told(24, square, [(ONE, 32), (ONE, 32), (higher, 160), (ONE, 32)])
        self.assert_told(24, square + 1, [(higher, 160), (ONE, 32), (higher, 160), (ONE, 32)])

    def test_small_ones(self):
        for r, significand, flags in ((NEAR, 0xB504F333F9DE6484, 34), (UP, 0xB504F333F9DE6485, 162),
                                      (DOWN, 0xB504F333F9DE6484, 34), (CUT, 0xB504F333F9DE6484, 34)):
            self.assertEqual(one(SQRT, 64, r, LEAST), [0, ext(16383 - 8223, significand), flags])


if __name__ == "__main__":
    unittest.main()
