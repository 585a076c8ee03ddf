"""Every operation over many operands, against the document's sentences told a second time."""

import unittest

from tests.support import (
    ADD, ALL, DIV, GREATEST, GREATEST_SMALL, HIGH, LEAST, LEAST_NORMAL, LOUD, MINUS_INF, MINUS_ONE, MINUS_ZERO, MUL,
    NEARLY_SMALL, ODD_ONES, ONE, ONE_OPS, PLUS_INF, PLUS_ZERO, PRECISIONS, PREM, PREM1, QUIET, ROUNDINGS, SCALE, SUB,
    TWO_OPS, Stream, ext, floats_bits, hexed, minus, told_by_one, told_by_two)
from wideunit.unit import one, two

KINDS = (
    PLUS_ZERO, MINUS_ZERO, LEAST, minus(GREATEST_SMALL), ext(0x0000, 0x123456789), NEARLY_SMALL,
    ext(0x8000, ALL), LEAST_NORMAL, ext(0x8001, ALL), ONE, MINUS_ONE, ext(0x4000, 0xC000000000000001), GREATEST,
    minus(GREATEST), PLUS_INF, MINUS_INF, QUIET, minus(QUIET), ext(0x7FFF, ALL), LOUD, minus(LOUD),
    ext(0xFFFF, HIGH + 1), ODD_ONES[0], ODD_ONES[1], minus(ODD_ONES[3]), ODD_ONES[5],
)
STEPS = (
    ext(0x3FFF, HIGH + 1), ext(0x3FFF, ALL), ext(0xBFFF, HIGH + (1 << 39)), ext(0x3FFE, ALL - (1 << 39) + 1),
    ext(0x3FBF, HIGH), ext(0xBFBE, HIGH), ext(0x3FBE, HIGH + 1), ext(0x4000, 0xA000000000000000),
    ext(0xC000, 0xC000000000000000), ext(0x4003, 0xC800000000000000), ext(0x400D, 0xFFFE000000000000),
    ext(0xC00E, 0x8000000000000000), ext(0x1FFF, 0xB504F333F9DE6485), ext(0x5FFE, 0xB504F333F9DE6485),
    ext(0x0040, 0xD000000000000003), ext(0x7FBE, 0xAAAAAAAAAAAAAAAB),
)


class SweepCase(unittest.TestCase):
    def assert_two(self, op, q, r, a, b):
        told = two(op, q, r, a, b)
        asked = told_by_two(op, q, r, a, b)
        if told != asked:
            self.fail(f"two({op}, {q}, {r}, {a:#x}, {b:#x}): {hexed(told)}, asked {hexed(asked)}")

    def assert_one(self, op, q, r, a):
        told = one(op, q, r, a)
        asked = told_by_one(op, q, r, a)
        if told != asked:
            self.fail(f"one({op}, {q}, {r}, {a:#x}): {hexed(told)}, asked {hexed(asked)}")


class Pairs(SweepCase):
    def test_two_of_every_pair_of_kinds(self):
        for a in KINDS:
            for b in KINDS:
                for op in TWO_OPS:
                    for r in ROUNDINGS:
                        self.assert_two(op, 64, r, a, b)

    def test_two_by_every_precision(self):
        finite = KINDS[2:14]
        for a in finite + STEPS:
            for b in finite + STEPS:
                for op in (ADD, SUB, MUL, DIV):
                    for q in (24, 53):
                        for r in ROUNDINGS:
                            self.assert_two(op, q, r, a, b)

    def test_two_of_steps(self):
        for a in STEPS:
            for b in KINDS + STEPS:
                for op in TWO_OPS:
                    for r in ROUNDINGS:
                        self.assert_two(op, 64, r, a, b)
                        self.assert_two(op, 64, r, minus(b), a)

    def test_precision_counts_for_four_alone(self):
        for a in STEPS:
            for b in STEPS + (LEAST, GREATEST):
                for op in (PREM, PREM1, SCALE):
                    for r in ROUNDINGS:
                        wide = two(op, 64, r, a, b)
                        self.assertEqual(two(op, 53, r, a, b), wide)
                        self.assertEqual(two(op, 24, r, a, b), wide)

    def test_one_of_every_kind(self):
        for a in KINDS + STEPS + ODD_ONES:
            for op in ONE_OPS:
                for q in PRECISIONS:
                    for r in ROUNDINGS:
                        self.assert_one(op, q, r, a)
                        self.assert_one(op, q, r, minus(a))


class ManyOperands(SweepCase):
    def pairs(self, seed, many, gap):
        """Pairs of which the exponents lie at most gap apart."""
        stream = Stream(seed)
        for _ in range(many):
            a = stream.finite()
            middle = a >> 64 & 0x7FFF
            yield stream, a, stream.finite(max(0, middle - gap), min(0x7FFE, middle + gap))

    def test_near_one_another(self):
        for op in TWO_OPS:
            for stream, a, b in self.pairs(11 + op, 900, 70):
                self.assert_two(op, stream.pick(PRECISIONS), stream.pick(ROUNDINGS), a, b)

    def test_anywhere(self):
        for op in TWO_OPS:
            for stream, a, b in self.pairs(31 + op, 400, 0x7FFE):
                self.assert_two(op, stream.pick(PRECISIONS), stream.pick(ROUNDINGS), a, b)

    def test_results_round_the_edges_of_the_exponents(self):
        stream = Stream(5)
        for _ in range(800):
            a = stream.finite(0x1FC0, 0x2040)
            small = stream.finite(0x1FC0, 0x2040)
            great = stream.finite(0x5FC0, 0x6040)
            q, r = stream.pick(PRECISIONS), stream.pick(ROUNDINGS)
            self.assert_two(MUL, q, r, a, small)
            self.assert_two(DIV, q, r, a, great)
            self.assert_two(DIV, q, r, great, a)
            self.assert_two(MUL, q, r, great, stream.finite(0x5FC0, 0x6040))

    def test_sums_of_small_ones(self):
        stream = Stream(6)
        for _ in range(1500):
            a, b = stream.finite(0, 40), stream.finite(0, 40)
            self.assert_two(stream.pick((ADD, SUB)), stream.pick(PRECISIONS), stream.pick(ROUNDINGS), a, b)

    def test_scale_to_every_edge(self):
        stream = Stream(7)
        for _ in range(1500):
            a = stream.finite()
            target = stream.pick((-16382, -16446, 16383)) - ((a >> 64 & 0x7FFF) - 16383)
            n = target + stream.below(140) - 70
            self.assert_two(SCALE, 64, stream.pick(ROUNDINGS), a, floats_bits(n))

    def test_one_of_many(self):
        stream = Stream(8)
        for op in ONE_OPS:
            for _ in range(600):
                a = stream.finite() if stream.below(2) else stream.finite(0x3FF0, 0x4050)
                self.assert_one(op, stream.pick(PRECISIONS), stream.pick(ROUNDINGS), a)
                self.assert_one(op, stream.pick(PRECISIONS), stream.pick(ROUNDINGS), minus(a))


if __name__ == "__main__":
    unittest.main()
