"""The document's own examples, and the floats that it writes out."""

import unittest

from tests.support import (
    ADD, COM, CUT, DIV, DOWN, EXTRACT, HIGH, MINUS_ZERO, NEAR, ONE, PLUS_ZERO, PREM, PREM1, RINT, SCALE, SUB, UCOM, UP,
    ext)
from wideunit.unit import constant, load, loadp, loadw, one, store, storep, storew, two

TWO = ext(0x4000, HIGH)
THREE = ext(0x4000, 0xC000000000000000)
FIVE = ext(0x4001, 0xA000000000000000)
EIGHT = ext(0x4002, HIGH)
QUIET = ext(0x7FFF, 0xC000000000000000)


class Examples(unittest.TestCase):
    def test_one_third(self):
        third = 0xAAAAAAAAAAAAAAAA
        self.assertEqual(two(DIV, 64, NEAR, ONE, THREE), [0, ext(0x3FFD, third + 1), 160])
        self.assertEqual(two(DIV, 64, CUT, ONE, THREE), [0, ext(0x3FFD, third), 32])
        self.assertEqual(two(DIV, 64, DOWN, ONE, THREE), [0, ext(0x3FFD, third), 32])
        self.assertEqual(two(DIV, 64, UP, ONE, THREE), [0, ext(0x3FFD, third + 1), 160])
        self.assertEqual(two(DIV, 24, NEAR, ONE, THREE), [0, ext(0x3FFD, 0xAAAAAB0000000000), 160])
        self.assertEqual(two(DIV, 24, CUT, ONE, THREE), [0, ext(0x3FFD, 0xAAAAAA0000000000), 32])
        self.assertEqual(two(DIV, 53, NEAR, ONE, THREE), [0, ext(0x3FFD, 0xAAAAAAAAAAAAA800), 32])
        self.assertEqual(two(DIV, 53, UP, ONE, THREE), [0, ext(0x3FFD, 0xAAAAAAAAAAAAB000), 160])

    def test_one_less_one(self):
        for r in (NEAR, UP, CUT):
            self.assertEqual(two(SUB, 64, r, ONE, ONE), [0, PLUS_ZERO, 0])
        self.assertEqual(two(SUB, 64, DOWN, ONE, ONE), [0, MINUS_ZERO, 0])

    def test_remainders(self):
        self.assertEqual(two(PREM, 64, NEAR, FIVE, THREE), [0, TWO, 2, 0])
        self.assertEqual(two(PREM1, 64, NEAR, FIVE, THREE), [0, ext(0xBFFF, HIGH), 8, 0])

    def test_remainder_in_two_steps(self):
        first = two(PREM, 64, NEAR, ext(0x3FFF + 70, HIGH), THREE)
        self.assertEqual(first, [0, ext(0x3FFF + 32, HIGH), 4, 0])
        self.assertEqual(two(PREM, 64, NEAR, first[1], THREE), [0, ONE, 3, 0])

    def test_scale(self):
        near_four = ext(0x4000, 0xF99999999999999A)
        self.assertEqual(two(SCALE, 64, NEAR, ONE, near_four), [0, EIGHT, 0])

    def test_extract(self):
        twelve = ext(0x4002, 0xC000000000000000)
        self.assertEqual(one(EXTRACT, 64, NEAR, twelve), [0, THREE, ext(0x3FFF, 0xC000000000000000), 0])

    def test_rint(self):
        two_and_a_half = ext(0x4000, 0xA000000000000000)
        self.assertEqual(one(RINT, 64, NEAR, two_and_a_half), [0, TWO, 32])
        self.assertEqual(one(RINT, 64, UP, two_and_a_half), [0, THREE, 160])

    def test_compared_with_a_quiet_one(self):
        self.assertEqual(two(COM, 64, NEAR, ONE, QUIET), [0, 13, 1])
        self.assertEqual(two(UCOM, 64, NEAR, ONE, QUIET), [0, 13, 0])

    def test_one_is_one(self):
        self.assertEqual(two(ADD, 64, NEAR, PLUS_ZERO, ONE), [0, 0x3FFF8000000000000000, 0])
        self.assertEqual(loadw(1), [0, 0x3FFF8000000000000000])
        self.assertEqual(load(1, 0x3F800000), [0, 0x3FFF8000000000000000, 0])

    def test_store_whole(self):
        # 32767.5, as half of 65535.
        number = two(DIV, 64, NEAR, loadw(65535)[1], TWO)
        self.assertEqual(number, [0, ext(0x400D, 0xFFFF000000000000), 0])
        self.assertEqual(storew(16, NEAR, number[1]), [0, -32768, 1])

    def test_store_packed(self):
        number = loadw(-1234)[1]
        told = [0x34, 0x12, 0x00, 0x00, 0x00, 0x00, 0x00, 0x00, 0x00, 0x80]
        self.assertEqual(storep(NEAR, number), [0, *told, 0])
        self.assertEqual(loadp(told), [0, number])

    def test_the_bits_of_thirteen(self):
        self.assertEqual(two(COM, 64, NEAR, ONE, QUIET)[1], 1 + 4 + 8)

    def test_the_empty_ones(self):
        empty = 0xFFFFC000000000000000
        odd = ext(0x3FFF, 0)
        self.assertEqual(two(ADD, 64, NEAR, odd, ONE), [0, empty, 1])
        self.assertEqual(store(1, NEAR, odd), [0, 0xFFC00000, 1])
        self.assertEqual(store(2, NEAR, odd), [0, 0xFFF8000000000000, 1])
        self.assertEqual(load(1, 0xFFC00000), [0, empty, 0])
        self.assertEqual(load(2, 0xFFF8000000000000), [0, empty, 0])

    def test_constants(self):
        lower = (
            0x4000D49A784BCD1B8AFE, 0x3FFFB8AA3B295C17F0BB, 0x4000C90FDAA22168C234, 0x3FFD9A209A84FBCFF798,
            0x3FFEB17217F7D1CF79AB)
        for k, bits in enumerate(lower, start=1):
            self.assertEqual([constant(k, r) for r in (DOWN, CUT)], [[0, bits]] * 2)
            self.assertEqual(constant(k, UP), [0, bits + 1])
            self.assertEqual(constant(k, NEAR), [0, bits if k == 1 else bits + 1])


if __name__ == "__main__":
    unittest.main()
