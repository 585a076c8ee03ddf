"""store: numbers given out as singles and doubles, by each rounding, with the answers written out, and many more."""

import struct
import unittest
from fractions import Fraction

from tests.support import (
    ALL, DOUBLE, EMPTY, FORMATS, GREATEST, GREATEST_SMALL, HIGH, LEAST, LEAST_NORMAL, LOUD, MINUS_INF, MINUS_ZERO,
    NARROW, NEAR, NEARLY_SMALL, ODD_ONES, ONE, PLUS_INF, PLUS_ZERO, QUIET, ROUNDINGS, SINGLE, TOO_MANY, Stream, ext,
    hexed, kind, minus, narrow_bits, narrow_joined, narrow_kind, power_of_two, sign, told_by_load, told_by_store,
    value)
from wideunit.unit import load, store

TURNED_ROUNDING = (0, 2, 1, 3)


class StoreCase(unittest.TestCase):
    def assert_stored(self, f, a, by_rounding):
        """by_rounding: the bits and flags for near, down, up and cut; and of minus a, the signs turned."""
        sign_bit = 1 << FORMATS[f][3] - 1
        for r, (bits, flags) in zip(ROUNDINGS, by_rounding, strict=True):
            with self.subTest(f=f, r=r, a=hex(a)):
                self.assertEqual(hexed(store(f, r, a)), hexed([0, bits, flags]))
                turned = store(f, TURNED_ROUNDING[r], minus(a))
                self.assertEqual(hexed(turned), hexed([0, bits ^ sign_bit, flags]))

    def assert_always(self, f, a, bits, flags):
        self.assert_stored(f, a, [(bits, flags)] * 4)


class NotRounded(StoreCase):
    def test_zero_and_infinite(self):
        self.assert_always(SINGLE, PLUS_ZERO, 0x00000000, 0)
        self.assert_always(SINGLE, PLUS_INF, 0x7F800000, 0)
        self.assert_always(DOUBLE, PLUS_ZERO, 0x0000000000000000, 0)
        self.assert_always(DOUBLE, PLUS_INF, 0x7FF0000000000000, 0)
        for r in ROUNDINGS:
            self.assertEqual(store(SINGLE, r, MINUS_ZERO), [0, 0x80000000, 0])
            self.assertEqual(store(DOUBLE, r, MINUS_ZERO), [0, 0x8000000000000000, 0])
            self.assertEqual(store(SINGLE, r, MINUS_INF), [0, 0xFF800000, 0])
            self.assertEqual(store(DOUBLE, r, MINUS_INF), [0, 0xFFF0000000000000, 0])

    def test_quiet_ones(self):
        rows = (
            (0xC000000000000000, 0x7FC00000, 0x7FF8000000000000),
            (0xC0000000000007FF, 0x7FC00000, 0x7FF8000000000000),
            (0xC000000000000800, 0x7FC00000, 0x7FF8000000000001),
            (0xC00000FFFFFFFFFF, 0x7FC00000, 0x7FF800001FFFFFFF),
            (0xC000010000000000, 0x7FC00001, 0x7FF8000020000000),
            (0xE5A5A5A5A5A5A5A5, 0x7FE5A5A5, 0x7FFCB4B4B4B4B4B4),
            (ALL, 0x7FFFFFFF, 0x7FFFFFFFFFFFFFFF))
        for significand, single, double in rows:
            self.assert_always(SINGLE, ext(0x7FFF, significand), single, 0)
            self.assert_always(DOUBLE, ext(0x7FFF, significand), double, 0)

    def test_loud_ones(self):
        rows = (
            (0x8000000000000001, 0x7FC00000, 0x7FF8000000000000),
            (0x80000000000007FF, 0x7FC00000, 0x7FF8000000000000),
            (0x8000000000000800, 0x7FC00000, 0x7FF8000000000001),
            (0x8000010000000000, 0x7FC00001, 0x7FF8000020000000),
            (0xA5A5A5A5A5A5A5A5, 0x7FE5A5A5, 0x7FFCB4B4B4B4B4B4),
            (0xBFFFFFFFFFFFFFFF, 0x7FFFFFFF, 0x7FFFFFFFFFFFFFFF))
        for significand, single, double in rows:
            self.assert_always(SINGLE, ext(0x7FFF, significand), single, 1)
            self.assert_always(DOUBLE, ext(0x7FFF, significand), double, 1)

    def test_odd_ones(self):
        for odd in ODD_ONES + tuple(minus(a) for a in ODD_ONES):
            for r in ROUNDINGS:
                self.assertEqual(store(SINGLE, r, odd), [0, 0xFFC00000, 1])
                self.assertEqual(store(DOUBLE, r, odd), [0, 0xFFF8000000000000, 1])

    def test_the_empty_one(self):
        for r in ROUNDINGS:
            self.assertEqual(store(SINGLE, r, EMPTY), [0, 0xFFC00000, 0])
            self.assertEqual(store(DOUBLE, r, EMPTY), [0, 0xFFF8000000000000, 0])

    def test_what_fits_is_itself(self):
        self.assert_always(SINGLE, ONE, 0x3F800000, 0)
        self.assert_always(DOUBLE, ONE, 0x3FF0000000000000, 0)
        self.assert_always(SINGLE, ext(0x3FFF, 0x8000010000000000), 0x3F800001, 0)
        self.assert_always(DOUBLE, ext(0x3FFF, 0x8000000000000800), 0x3FF0000000000001, 0)
        self.assert_always(SINGLE, ext(0x4000, 0xC90FDB0000000000), 0x40490FDB, 0)
        self.assert_always(DOUBLE, ext(0x4000, 0xC90FDAA22168C000), 0x400921FB54442D18, 0)


class Halfway(StoreCase):
    def assert_near_one(self, f, above, near, low):
        """Of 1 and so much more in the significand: the fraction and flags by near, and the one below."""
        one = FORMATS[f][2] << FORMATS[f][0] - 1
        cut, up = (one + low, 32), (one + low + 1, 160)
        self.assert_stored(f, ext(0x3FFF, HIGH + above), [(one + near[0], near[1]), cut, up, cut])

    def test_round_the_middle(self):
        for f, last in ((SINGLE, 1 << 40), (DOUBLE, 1 << 11)):
            half = last // 2
            self.assert_near_one(f, 1, (0, 32), 0)
            self.assert_near_one(f, half - 1, (0, 32), 0)
            self.assert_near_one(f, half, (0, 32), 0)
            self.assert_near_one(f, half + 1, (1, 160), 0)
            self.assert_near_one(f, last - 1, (1, 160), 0)
            self.assert_near_one(f, last + 1, (1, 32), 1)
            self.assert_near_one(f, last + half - 1, (1, 32), 1)
            self.assert_near_one(f, last + half, (2, 160), 1)
            self.assert_near_one(f, last + half + 1, (2, 160), 1)
            self.assert_near_one(f, 2 * last + half, (2, 32), 2)
            self.assert_near_one(f, 3 * last + half, (4, 160), 3)

    def test_pi(self):
        pi = ext(0x4000, 0xC90FDAA22168C235)
        single = [(0x40490FDB, 160), (0x40490FDA, 32), (0x40490FDB, 160), (0x40490FDA, 32)]
        self.assert_stored(SINGLE, pi, single)
        low, high = 0x400921FB54442D18, 0x400921FB54442D19
        self.assert_stored(DOUBLE, pi, [(low, 32), (low, 32), (high, 160), (low, 32)])

    def test_carry_into_the_next_power_of_two(self):
        self.assert_stored(
            SINGLE, ext(0x3FFF, ALL), [(0x40000000, 160), (0x3FFFFFFF, 32), (0x40000000, 160), (0x3FFFFFFF, 32)])
        self.assert_stored(
            SINGLE, ext(0x3FFF, 0xFFFFFF8000000000),
            [(0x40000000, 160), (0x3FFFFFFF, 32), (0x40000000, 160), (0x3FFFFFFF, 32)])
        self.assert_stored(
            SINGLE, ext(0x3FFF, 0xFFFFFF7FFFFFFFFF),
            [(0x3FFFFFFF, 32), (0x3FFFFFFF, 32), (0x40000000, 160), (0x3FFFFFFF, 32)])
        low, high = 0x3FFFFFFFFFFFFFFF, 0x4000000000000000
        self.assert_stored(DOUBLE, ext(0x3FFF, ALL), [(high, 160), (low, 32), (high, 160), (low, 32)])
        self.assert_stored(DOUBLE, ext(0x3FFF, ALL - 1023), [(high, 160), (low, 32), (high, 160), (low, 32)])
        self.assert_stored(DOUBLE, ext(0x3FFF, ALL - 1024), [(low, 32), (low, 32), (high, 160), (low, 32)])


# By format: the exponent bits of 2^emax, of 2^emin and of the least small one; the last digit of the significand;
# the infinite one, the greatest, the least normal one.
EDGES = {
    SINGLE: (0x407E, 0x3F81, 0x3F6A, 1 << 40, 0x7F800000, 0x7F7FFFFF, 0x00800000),
    DOUBLE: (0x43FE, 0x3C01, 0x3BCD, 1 << 11, 0x7FF0000000000000, 0x7FEFFFFFFFFFFFFF, 0x0010000000000000),
}


class Overflow(StoreCase):
    def test_the_greatest(self):
        for f, (top, _, _, last, _, greatest, _) in EDGES.items():
            self.assert_always(f, ext(top, ALL - last + 1), greatest, 0)

    def test_rounded_to_the_greatest_or_over_it(self):
        for f, (top, _, _, last, endless, greatest, _) in EDGES.items():
            half = last // 2
            below = (greatest, 32)
            over = (endless, 168)
            self.assert_stored(f, ext(top, ALL - last + 2), [below, below, over, below])
            self.assert_stored(f, ext(top, ALL - half), [below, below, over, below])
            self.assert_stored(f, ext(top, ALL - half + 1), [over, below, over, below])
            self.assert_stored(f, ext(top, ALL), [over, below, over, below])

    def test_beyond_before_rounding(self):
        for f, (top, _, _, _, endless, greatest, _) in EDGES.items():
            told = [(endless, 168), (greatest, 40), (endless, 168), (greatest, 40)]
            for a in (ext(top + 1, HIGH), ext(top + 1, HIGH + 1), ext(top + 9, ALL), ext(0x7FFE, HIGH), GREATEST):
                self.assert_stored(f, a, told)

    def test_too_great_for_single_alone(self):
        self.assert_always(DOUBLE, ext(0x407F, HIGH), 0x47F0000000000000, 0)


class Underflow(StoreCase):
    def test_the_least_normal_one(self):
        for f, (_, bottom, _, _, _, _, normal) in EDGES.items():
            self.assert_always(f, ext(bottom, HIGH), normal, 0)
            self.assert_stored(
                f, ext(bottom, HIGH + 1), [(normal, 32), (normal, 32), (normal + 1, 160), (normal, 32)])

    def test_just_below_the_least_normal_one(self):
        for f, (_, bottom, _, last, _, _, normal) in EDGES.items():
            half = last // 2
            cut = (normal - 1, 48)
            # Rounded to all digits it's the least normal one: not below it, so no underflow.
            lifted = (normal, 160)
            for significand in (ALL, ALL - half + 1):
                self.assert_stored(f, ext(bottom - 1, significand), [lifted, cut, lifted, cut])
            # Near, it's below to all digits, and is the least normal one to the digits that are left.
            came = (normal, 176)
            self.assert_stored(f, ext(bottom - 1, ALL - half), [came, cut, lifted, cut])
            self.assert_stored(f, ext(bottom - 1, ALL - last + 1), [came, cut, came, cut])
            self.assert_stored(f, ext(bottom - 1, ALL - last), [cut, cut, came, cut])
            self.assert_stored(f, ext(bottom - 1, ALL - 2 * last + 2), [cut, cut, came, cut])
            # One digit fewer, and exactly there.
            self.assert_always(f, ext(bottom - 1, ALL - 2 * last + 1), normal - 1, 0)

    def test_small_results_that_are_exact(self):
        for f, (_, bottom, least, _, _, _, normal) in EDGES.items():
            self.assert_always(f, ext(bottom - 1, HIGH), normal // 2, 0)
            self.assert_always(f, ext(least, HIGH), 1, 0)
            self.assert_always(f, ext(least + 1, HIGH), 2, 0)
            self.assert_always(f, ext(least + 1, 0xC000000000000000), 3, 0)

    def test_small_results_that_are_not(self):
        for f, (_, _, least, _, _, _, _) in EDGES.items():
            self.assert_stored(f, ext(least, HIGH + 1), [(1, 48), (1, 48), (2, 176), (1, 48)])
            self.assert_stored(f, ext(least, 0xBFFFFFFFFFFFFFFF), [(1, 48), (1, 48), (2, 176), (1, 48)])
            self.assert_stored(f, ext(least, 0xC000000000000000), [(2, 176), (1, 48), (2, 176), (1, 48)])
            self.assert_stored(f, ext(least, ALL), [(2, 176), (1, 48), (2, 176), (1, 48)])
            self.assert_stored(f, ext(least + 1, 0xA000000000000000), [(2, 48), (2, 48), (3, 176), (2, 48)])
            self.assert_stored(f, ext(least + 1, 0xE000000000000000), [(4, 176), (3, 48), (4, 176), (3, 48)])

    def test_results_that_come_out_0(self):
        for f, (_, _, least, _, _, _, _) in EDGES.items():
            nearer_one = [(1, 176), (0, 48), (1, 176), (0, 48)]
            nearer_0 = [(0, 48), (0, 48), (1, 176), (0, 48)]
            self.assert_stored(f, ext(least - 1, ALL), nearer_one)
            self.assert_stored(f, ext(least - 1, HIGH + 1), nearer_one)
            self.assert_stored(f, ext(least - 1, HIGH), nearer_0)
            self.assert_stored(f, ext(least - 2, ALL), nearer_0)
            self.assert_stored(f, ext(least - 60, HIGH), nearer_0)

    def test_no_flag_two(self):
        told = [(0, 48), (0, 48), (1, 176), (0, 48)]
        for f in NARROW:
            for a in (LEAST, GREATEST_SMALL, NEARLY_SMALL, ext(0x0000, ALL), LEAST_NORMAL):
                self.assert_stored(f, a, told)

    def test_too_small_for_single_alone(self):
        self.assert_always(DOUBLE, ext(0x3F69, HIGH), 0x3690000000000000, 0)


class TooManyBits(unittest.TestCase):
    def test_refused(self):
        for bits in TOO_MANY:
            for f in NARROW:
                for r in ROUNDINGS:
                    self.assertEqual(store(f, r, bits), [-1])

    def test_eighty_bits_are_not_too_many(self):
        self.assertEqual(store(SINGLE, 0, (1 << 80) - 1), [0, 0xFFFFFFFF, 0])
        self.assertEqual(store(DOUBLE, 0, (1 << 80) - 1), [0, (1 << 64) - 1, 0])


class ManyOfThem(StoreCase):
    def assert_told(self, f, r, a):
        told, asked = store(f, r, a), told_by_store(f, r, a)
        if told != asked:
            self.fail(f"store({f}, {r}, {a:#x}): {hexed(told)}, asked {hexed(asked)}")

    def test_every_kind(self):
        kinds = (
            PLUS_ZERO, LEAST, GREATEST_SMALL, NEARLY_SMALL, LEAST_NORMAL, ONE, GREATEST, PLUS_INF, QUIET, LOUD)
        for f in NARROW:
            for r in ROUNDINGS:
                for a in kinds + ODD_ONES:
                    self.assert_told(f, r, a)
                    self.assert_told(f, r, minus(a))

    def test_every_exponent_near_the_edges(self):
        stream = Stream(46)
        for f in NARROW:
            top, bottom, least = EDGES[f][:3]
            for exponent_bits in (*range(least - 4, bottom + 4), *range(top - 4, top + 5)):
                for r in ROUNDINGS:
                    for significand in (HIGH, HIGH + 1, ALL, ALL - 1, stream.significand(), stream.significand()):
                        self.assert_told(f, r, ext(exponent_bits, significand))
                        self.assert_told(f, r, ext(exponent_bits | 0x8000, significand))

    def test_many(self):
        stream = Stream(47)
        for f in NARROW:
            top, least = EDGES[f][0], EDGES[f][2]
            for _ in range(2500):
                self.assert_told(f, stream.pick(ROUNDINGS), stream.finite(least - 10, top + 3))
            for _ in range(500):
                self.assert_told(f, stream.pick(ROUNDINGS), stream.finite())
                self.assert_told(f, stream.pick(ROUNDINGS), ext(0x7FFF | stream.bits(1) << 15, stream.bits(64)))

    def test_halves_of_the_last_digit_that_is_kept(self):
        stream = Stream(48)
        for f in NARROW:
            top, bottom, least, last = EDGES[f][:4]
            for _ in range(2000):
                exponent_bits = least - 2 + stream.below(top - least + 4)
                kept = max(0, min(FORMATS[f][0], exponent_bits - least + 1))
                half = 1 << 63 - kept
                significand = stream.significand() // half * half + stream.pick((-1, 0, 0, 1))
                significand = max(HIGH, min(ALL, significand))
                self.assert_told(f, stream.pick(ROUNDINGS), ext(exponent_bits, significand))

    def test_near_double_is_pythons_own(self):
        stream = Stream(49)
        for _ in range(3000):
            a = stream.finite(0x3BC0, 0x43FD)
            held = float(value(a))
            bits = struct.unpack(">Q", struct.pack(">d", held))[0] | sign(a) << 63
            told = store(DOUBLE, NEAR, a)
            self.assertEqual(told[1], bits)
            self.assertEqual(bool(told[2] & 32), Fraction(held) != value(a))
            self.assertEqual(bool(told[2] & 128), abs(Fraction(held)) > abs(value(a)))


class LoadedAndStored(unittest.TestCase):
    """U6."""

    def narrow_ones(self, f):
        stream = Stream(50)
        p, emin, emax, width = FORMATS[f]
        for exponent_bits in range(0, 2 * emax + 2):
            for fraction in (0, 1, 1 << p - 2, (1 << p - 1) - 1, stream.bits(p - 1)):
                for s in (0, 1):
                    yield narrow_joined(f, s, exponent_bits, fraction)
        for _ in range(1000):
            yield stream.bits(width)

    def test_what_is_loaded_and_stored_again_is_itself(self):
        for f in NARROW:
            quiet_bit = 1 << FORMATS[f][0] - 2
            for x in self.narrow_ones(f):
                number = load(f, x)[1]
                # A loud one is made quiet as it's loaded.
                same = x | quiet_bit if narrow_kind(f, x) == "loud" else x
                for r in ROUNDINGS:
                    self.assertEqual(store(f, r, number), [0, same, 0])

    def test_single_through_double(self):
        for x in self.narrow_ones(SINGLE):
            number = load(SINGLE, x)[1]
            for r in ROUNDINGS:
                double = store(DOUBLE, r, number)
                self.assertEqual(double[2], 0)
                self.assertEqual(load(DOUBLE, double[1]), [0, number, 0])

    def test_what_is_stored_without_flags_loads_again(self):
        stream = Stream(51)
        for f in NARROW:
            p, emin, emax = FORMATS[f][:3]
            for _ in range(1000):
                e = emin + stream.below(emax - emin + 1)
                x = (stream.bits(p) | 1 << p - 1) * power_of_two(e - p + 1)
                number = told_by_load(f, narrow_bits(f, x, 0))[1]
                self.assertEqual(kind(number), "normal")
                stored = store(f, stream.pick(ROUNDINGS), number)
                self.assertEqual(stored[2], 0)
                self.assertEqual(load(f, stored[1]), [0, number, 0])


if __name__ == "__main__":
    unittest.main()
