"""prem and prem1: the remainder, the quotient's bits, and remainders that are not done yet."""

import unittest

from tests.support import (
    ALL, EMPTY, GREATEST, GREATEST_SMALL, HIGH, LEAST, LEAST_NORMAL, MINUS_INF, MINUS_ONE, MINUS_ZERO, NEARLY_SMALL,
    ONE, PLUS_INF, PLUS_ZERO, PRECISIONS, PREM, PREM1, ROUNDINGS, Stream, ext, floats_bits, minus, value)
from wideunit.unit import two

BOTH = (PREM, PREM1)
Q_BITS = (0, 2, 8, 10, 1, 3, 9, 11)


class RemainderCase(unittest.TestCase):
    def assert_told(self, op, a, b, *told):
        for q in PRECISIONS:
            for r in ROUNDINGS:
                with self.subTest(op=op, q=q, r=r, a=hex(a), b=hex(b)):
                    self.assertEqual(two(op, q, r, a, b), [0, *told])


class Edges(RemainderCase):
    def test_invalid(self):
        for op in BOTH:
            for b in (PLUS_ZERO, MINUS_ZERO, ONE, LEAST, PLUS_INF, MINUS_INF):
                self.assert_told(op, PLUS_INF, b, EMPTY, 0, 1)
                self.assert_told(op, MINUS_INF, b, EMPTY, 0, 1)
            for a in (PLUS_ZERO, MINUS_ZERO, ONE, minus(LEAST), GREATEST):
                self.assert_told(op, a, PLUS_ZERO, EMPTY, 0, 1)
                self.assert_told(op, a, MINUS_ZERO, EMPTY, 0, 1)

    def test_by_infinite(self):
        for op in BOTH:
            for inf in (PLUS_INF, MINUS_INF):
                for a in (PLUS_ZERO, MINUS_ZERO, ONE, MINUS_ONE, GREATEST):
                    self.assert_told(op, a, inf, a, 0, 0)
                self.assert_told(op, minus(LEAST), inf, minus(LEAST), 0, 2)
                self.assert_told(op, NEARLY_SMALL, inf, LEAST_NORMAL, 0, 2)

    def test_of_zero(self):
        for op in BOTH:
            for zero in (PLUS_ZERO, MINUS_ZERO):
                self.assert_told(op, zero, ONE, zero, 0, 0)
                self.assert_told(op, zero, minus(GREATEST), zero, 0, 0)
                self.assert_told(op, zero, LEAST, zero, 0, 2)

    def test_nothing_left_has_the_sign_of_a(self):
        six, three = floats_bits(6), floats_bits(3)
        for op in BOTH:
            for b in (three, minus(three)):
                self.assert_told(op, six, b, PLUS_ZERO, 8, 0)
                self.assert_told(op, minus(six), b, MINUS_ZERO, 8, 0)


class Quotients(RemainderCase):
    def test_bits_of_the_cut_quotient(self):
        for whole in range(40):
            a, b = floats_bits(4 * whole + 3), floats_bits(4)
            rest = floats_bits(3)
            self.assert_told(PREM, a, b, rest, Q_BITS[whole % 8], 0)
            self.assert_told(PREM, a, minus(b), rest, Q_BITS[whole % 8], 0)
            self.assert_told(PREM, minus(a), b, minus(rest), Q_BITS[whole % 8], 0)

    def test_bits_of_the_nearest_quotient(self):
        for whole in range(1, 40):
            a, b = floats_bits(4 * whole - 1), floats_bits(4)
            self.assert_told(PREM1, a, b, MINUS_ONE, Q_BITS[whole % 8], 0)
            self.assert_told(PREM1, a, minus(b), MINUS_ONE, Q_BITS[whole % 8], 0)
            self.assert_told(PREM1, minus(a), b, ONE, Q_BITS[whole % 8], 0)

    def test_as_near_to_two_goes_to_the_even_one(self):
        four, two_ = floats_bits(4), floats_bits(2)
        self.assert_told(PREM1, two_, four, two_, 0, 0)
        self.assert_told(PREM1, floats_bits(6), four, minus(two_), 8, 0)
        self.assert_told(PREM1, floats_bits(10), four, two_, 8, 0)
        self.assert_told(PREM1, floats_bits(14), four, minus(two_), 1, 0)
        self.assert_told(PREM1, floats_bits(-6), four, two_, 8, 0)
        self.assert_told(PREM, floats_bits(6), four, two_, 2, 0)

    def test_a_below_b(self):
        self.assert_told(PREM, ONE, floats_bits(3), ONE, 0, 0)
        self.assert_told(PREM, floats_bits(2), floats_bits(3), floats_bits(2), 0, 0)
        self.assert_told(PREM1, ONE, floats_bits(3), ONE, 0, 0)
        self.assert_told(PREM1, floats_bits(2), floats_bits(3), MINUS_ONE, 2, 0)
        for op in BOTH:
            self.assert_told(op, minus(LEAST), GREATEST, minus(LEAST), 0, 2)
            self.assert_told(op, NEARLY_SMALL, ONE, LEAST_NORMAL, 0, 2)

    def test_just_over_half(self):
        b = floats_bits(2)
        self.assert_told(PREM1, ext(0x3FFF, HIGH + 1), b, minus(ext(0x3FFE, ALL - 1)), 2, 0)
        self.assert_told(PREM1, ext(0x3FFE, ALL), b, ext(0x3FFE, ALL), 0, 0)

    def test_small_results_are_exact_and_unflagged(self):
        a, b = ext(0x0001, HIGH + 5), LEAST_NORMAL
        for op in BOTH:
            self.assert_told(op, a, b, ext(0x0000, 5), 2, 0)
            self.assert_told(op, ext(0x0002, HIGH), ext(0x0000, 3), *self.small_rest(op, 1 << 64, 3), 2)

    def small_rest(self, op, over, under):
        quotient, rest = divmod(over, under)
        if op == PREM1 and 2 * rest > under:
            quotient, rest = quotient + 1, rest - under
        return floats_bits(rest * value(LEAST)), Q_BITS[quotient % 8]

    def test_nearly_small_operands(self):
        for op in BOTH:
            self.assert_told(op, NEARLY_SMALL, NEARLY_SMALL, PLUS_ZERO, 2, 2)
            self.assert_told(op, LEAST_NORMAL, minus(NEARLY_SMALL), PLUS_ZERO, 2, 2)
            self.assert_told(op, GREATEST_SMALL, NEARLY_SMALL, *self.below_nearly_small(op), 2)

    def below_nearly_small(self, op):
        return (minus(LEAST), 2) if op == PREM1 else (GREATEST_SMALL, 0)


class Distances(RemainderCase):
    def test_sixty_three_is_done_sixty_four_is_not(self):
        for op in BOTH:
            told = two(op, 64, 0, ext(0x3FFF + 63, ALL), ONE)
            self.assertEqual(told, [0, PLUS_ZERO, 11, 0])
            # N is 32: what stays is below 2^32.
            told = two(op, 64, 0, ext(0x3FFF + 64, ALL), ONE)
            self.assertEqual(told, [0, floats_bits(0xFFFFFFFE), 4, 0])

    def test_distance_is_by_exponents_of_two_not_by_quotients(self):
        # 2^64 / 1.5 is below 2^64, but the exponents lie 64 apart.
        b = ext(0x3FFF, 0xC000000000000000)
        for op in BOTH:
            self.assertEqual(two(op, 64, 0, ext(0x3FFF + 64, HIGH), b)[2], 4)
            self.assertEqual(two(op, 64, 0, ext(0x3FFF + 63, ALL), b)[2] & 4, 0)

    def test_how_far_it_comes(self):
        # By D: N is 32 + D modulo 32.
        b = floats_bits(3)
        for d, n in ((64, 32), (65, 33), (94, 62), (95, 63), (96, 32), (127, 63), (128, 32), (16382, 62)):
            a = ext(0x4000 + d, HIGH)
            step = 1 << d - n
            rest = (1 << d + 1) - 3 * step * ((1 << d + 1) // (3 * step))
            for op in BOTH:
                self.assert_told(op, a, b, floats_bits(rest), 4, 0)
                self.assert_told(op, minus(a), b, floats_bits(-rest), 4, 0)
                self.assert_told(op, minus(a), minus(b), floats_bits(-rest), 4, 0)

    def test_unfinished_is_cut_in_prem1_too(self):
        # 2^71 by 3: the quotient's rest is over half, yet it's cut.
        a, b = ext(0x3FFF + 71, HIGH), floats_bits(3)
        self.assert_told(PREM1, a, b, floats_bits(1 << 33), 4, 0)

    def test_nothing_left_of_an_unfinished_one(self):
        for op in BOTH:
            self.assert_told(op, ext(0x3FFF + 100, HIGH), ONE, PLUS_ZERO, 4, 0)
            self.assert_told(op, ext(0xBFFF + 100, HIGH), ONE, MINUS_ZERO, 4, 0)

    def test_farthest_apart(self):
        for op in BOTH:
            # D is 32828, N 60: of the 64 digits the last three stay.
            self.assert_told(op, GREATEST, LEAST, floats_bits(7 << 16320), 4, 2)
            self.assert_told(op, minus(GREATEST), LEAST, floats_bits(-7 << 16320), 4, 2)
            self.assert_told(op, ext(0xFFFE, HIGH), LEAST, MINUS_ZERO, 4, 2)
            told = two(op, 64, 0, GREATEST, ext(0x0000, 3))
            d = 16383 + 16444
            step = 1 << d - (32 + d % 32)
            rest = (ALL << 16445 + 16383 - 63) % (3 * step)
            self.assertEqual(told, [0, floats_bits(rest * value(LEAST)), 4, 2])


class DoneAgain(unittest.TestCase):
    def remainder(self, op, a, b):
        steps = 0
        told = two(op, 64, 0, a, b)
        while told[2] == 4:
            steps += 1
            self.assertLess(steps, 1100)
            self.assertLess(abs(value(told[1])), abs(value(a)))
            a = told[1]
            told = two(op, 64, 0, a, b)
        return told

    def test_until_the_bit_is_off_it_is_the_remainder(self):
        stream = Stream(3)
        for number in range(24):
            a = stream.finite(0x4100 + 0x100 * number, 0x4200 + 0x100 * number)
            b = stream.finite(0x3FF0, 0x4050)
            x, y = value(a), value(b)
            rest = abs(x) % abs(y)
            self.assertEqual(abs(value(self.remainder(PREM, a, b)[1])), rest)
            self.assertEqual(abs(value(self.remainder(PREM1, a, b)[1])), min(rest, abs(y) - rest))

    def test_from_the_greatest_to_the_least(self):
        b = ext(0x8000, 0xFEDCBA987)
        told = self.remainder(PREM, GREATEST, b)
        self.assertEqual(value(told[1]), value(GREATEST) % -value(b))
        self.assertEqual(told[3], 2)

    def test_below_b_in_size(self):
        stream = Stream(4)
        for _ in range(500):
            a, b = stream.finite(0x3FFF, 0x403A), stream.finite(0x3FFF, 0x403A)
            told = two(PREM, 64, 0, a, b)
            self.assertEqual(told[2] & 4, 0)
            self.assertEqual(told[3], 0)
            self.assertLess(abs(value(told[1])), abs(value(b)))
            self.assertEqual(told[1] >> 79, a >> 79)
            nearest = two(PREM1, 64, 0, a, b)
            self.assertLessEqual(2 * abs(value(nearest[1])), abs(value(b)))


if __name__ == "__main__":
    unittest.main()
