"""The document's own examples that are of two and one."""

import unittest

from tests.support import (
    ADD, COM, CUT, DIV, DOWN, EXTRACT, HIGH, MINUS_ZERO, NEAR, ONE, PLUS_ZERO, PREM, PREM1, RINT, SCALE, SUB, UCOM, UP,
    ext)
from wideunit.unit import one, two

TWO = ext(0x4000, HIGH)
THREE = ext(0x4000, 0xC000000000000000)
FIVE = ext(0x4001, 0xA000000000000000)
EIGHT = ext(0x4002, HIGH)
QUIET = ext(0x7FFF, 0xC000000000000000)


class Examples(unittest.TestCase):
    def test_one_third(self):
        third = 0xAAAAAAAAAAAAAAAA
        self.assertEqual(two(DIV, 64, NEAR, ONE, THREE), [0, ext(0x3FFD, third + 1), 160])
        self.assertEqual(two(DIV, 64, CUT, ONE, THREE), [0, ext(0x3FFD, third), 32])
        self.assertEqual(two(DIV, 64, DOWN, ONE, THREE), [0, ext(0x3FFD, third), 32])
        self.assertEqual(two(DIV, 64, UP, ONE, THREE), [0, ext(0x3FFD, third + 1), 160])
        self.assertEqual(two(DIV, 24, NEAR, ONE, THREE), [0, ext(0x3FFD, 0xAAAAAB0000000000), 160])
        self.assertEqual(two(DIV, 24, CUT, ONE, THREE), [0, ext(0x3FFD, 0xAAAAAA0000000000), 32])
        self.assertEqual(two(DIV, 53, NEAR, ONE, THREE), [0, ext(0x3FFD, 0xAAAAAAAAAAAAA800), 32])
        self.assertEqual(two(DIV, 53, UP, ONE, THREE), [0, ext(0x3FFD, 0xAAAAAAAAAAAAB000), 160])

    def test_one_less_one(self):
        for r in (NEAR, UP, CUT):
            self.assertEqual(two(SUB, 64, r, ONE, ONE), [0, PLUS_ZERO, 0])
        self.assertEqual(two(SUB, 64, DOWN, ONE, ONE), [0, MINUS_ZERO, 0])

    def test_remainders(self):
        self.assertEqual(two(PREM, 64, NEAR, FIVE, THREE), [0, TWO, 2, 0])
        self.assertEqual(two(PREM1, 64, NEAR, FIVE, THREE), [0, ext(0xBFFF, HIGH), 8, 0])

    def test_remainder_in_two_steps(self):
        first = two(PREM, 64, NEAR, ext(0x3FFF + 70, HIGH), THREE)
        self.assertEqual(first, [0, ext(0x3FFF + 32, HIGH), 4, 0])
        self.assertEqual(two(PREM, 64, NEAR, first[1], THREE), [0, ONE, 3, 0])

    def test_scale(self):
        near_four = ext(0x4000, 0xF99999999999999A)
        self.assertEqual(two(SCALE, 64, NEAR, ONE, near_four), [0, EIGHT, 0])

    def test_extract(self):
        twelve = ext(0x4002, 0xC000000000000000)
        self.assertEqual(one(EXTRACT, 64, NEAR, twelve), [0, THREE, ext(0x3FFF, 0xC000000000000000), 0])

    def test_rint(self):
        two_and_a_half = ext(0x4000, 0xA000000000000000)
        self.assertEqual(one(RINT, 64, NEAR, two_and_a_half), [0, TWO, 32])
        self.assertEqual(one(RINT, 64, UP, two_and_a_half), [0, THREE, 160])

    def test_compared_with_a_quiet_one(self):
        self.assertEqual(two(COM, 64, NEAR, ONE, QUIET), [0, 13, 1])
        self.assertEqual(two(UCOM, 64, NEAR, ONE, QUIET), [0, 13, 0])

    def test_one_is_one(self):
        self.assertEqual(two(ADD, 64, NEAR, PLUS_ZERO, ONE), [0, 0x3FFF8000000000000000, 0])


if __name__ == "__main__":
    unittest.main()
