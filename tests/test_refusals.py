"""Bits that are too many: -1 alone, as a and as b, whatever else is handed in."""

import unittest

from tests.support import (
    LOUD, ODD_ONES, ONE, ONE_OPS, PLUS_INF, PLUS_ZERO, PRECISIONS, ROUNDINGS, TOO_MANY, TWO_OPS)
from wideunit.unit import one, two

GREATEST_BITS = (1 << 80) - 1


class TooManyBits(unittest.TestCase):
    def test_two(self):
        for op in TWO_OPS:
            for q in PRECISIONS:
                for r in ROUNDINGS:
                    for bits in TOO_MANY:
                        self.assertEqual(two(op, q, r, bits, ONE), [-1])
                        self.assertEqual(two(op, q, r, ONE, bits), [-1])

    def test_two_beside_other_kinds(self):
        for op in TWO_OPS:
            for bits in TOO_MANY:
                for other in (PLUS_ZERO, PLUS_INF, LOUD, ODD_ONES[0], bits):
                    self.assertEqual(two(op, 64, 0, bits, other), [-1])
                    self.assertEqual(two(op, 64, 0, other, bits), [-1])

    def test_one(self):
        for op in ONE_OPS:
            for q in PRECISIONS:
                for r in ROUNDINGS:
                    for bits in TOO_MANY:
                        self.assertEqual(one(op, q, r, bits), [-1])

    def test_eighty_bits_are_not_too_many(self):
        for op in TWO_OPS:
            self.assertEqual(two(op, 64, 0, GREATEST_BITS, ONE)[0], 0)
            self.assertEqual(two(op, 64, 0, ONE, GREATEST_BITS)[0], 0)
        for op in ONE_OPS:
            self.assertEqual(one(op, 64, 0, GREATEST_BITS)[0], 0)


if __name__ == "__main__":
    unittest.main()
