"""loadw: whole numbers taken in exactly, and refused beyond either end."""

import unittest

from tests.support import (
    ALL, HIGH, MINUS_ONE, MOST, ONE, PLUS_ZERO, Stream, ext, kind, told_by_loadw, value)
from wideunit.unit import loadw

LOWEST, HIGHEST = -(1 << 63), (1 << 63) - 1


class WrittenOut(unittest.TestCase):
    def test_least_ones(self):
        self.assertEqual(loadw(0), [0, PLUS_ZERO])
        self.assertEqual(loadw(1), [0, ONE])
        self.assertEqual(loadw(-1), [0, MINUS_ONE])
        self.assertEqual(loadw(2), [0, ext(0x4000, HIGH)])
        self.assertEqual(loadw(3), [0, ext(0x4000, 0xC000000000000000)])
        self.assertEqual(loadw(-10), [0, ext(0xC002, 0xA000000000000000)])
        self.assertEqual(loadw(32767), [0, ext(0x400D, 0xFFFE000000000000)])
        self.assertEqual(loadw(-32768), [0, ext(0xC00E, HIGH)])

    def test_ends(self):
        self.assertEqual(loadw(HIGHEST), [0, ext(0x403D, ALL - 1)])
        self.assertEqual(loadw(HIGHEST - 1), [0, ext(0x403D, ALL - 3)])
        self.assertEqual(loadw(LOWEST), [0, ext(0xC03E, HIGH)])
        self.assertEqual(loadw(LOWEST + 1), [0, ext(0xC03D, ALL - 1)])

    def test_as_many_digits_as_there_may_be(self):
        self.assertEqual(loadw(0x7654321076543211), [0, ext(0x403D, 0xECA86420ECA86422)])
        self.assertEqual(loadw(-0x7654321076543211), [0, ext(0xC03D, 0xECA86420ECA86422)])
        self.assertEqual(loadw(0x4000000000000001), [0, ext(0x403D, 0x8000000000000002)])

    def test_beyond_the_ends(self):
        for z in (HIGHEST + 1, HIGHEST + 2, ALL, ALL + 1, 1 << 79, (1 << 80) - 1, 1 << 80, MOST):
            self.assertEqual(loadw(z), [-1])
        for z in (LOWEST - 1, LOWEST - 2, -ALL, -ALL - 1, -(1 << 79), -(1 << 80), -MOST, -MOST - 1):
            self.assertEqual(loadw(z), [-1])


class ManyOfThem(unittest.TestCase):
    def test_round_every_power_of_two(self):
        for e in range(97):
            for off in (-2, -1, 0, 1, 2):
                for z in ((1 << e) + off, -(1 << e) + off):
                    if -MOST - 1 <= z <= MOST:
                        self.assertEqual(loadw(z), told_by_loadw(z))

    def test_exactly(self):
        stream = Stream(43)
        for _ in range(3000):
            z = stream.bits(1 + stream.below(63)) * stream.pick((1, -1))
            told = loadw(z)
            self.assertEqual(len(told), 2)
            self.assertEqual(value(told[1]), z)
            self.assertEqual(kind(told[1]), "normal" if z else "zero")
            self.assertEqual(told, told_by_loadw(z))


if __name__ == "__main__":
    unittest.main()
