"""constant: every one by every rounding, as written in the document and as worked out from series."""

import unittest
from fractions import Fraction

from tests.support import CUT, DOWN, NEAR, ONE, PLUS_ZERO, ROUNDINGS, UP, ext, rounded
from wideunit.unit import constant

# By k: near, down, up and cut.
WRITTEN = {
    0: [ext(0x3FFF, 0x8000000000000000)] * 4,
    1: [ext(0x4000, 0xD49A784BCD1B8AFE), ext(0x4000, 0xD49A784BCD1B8AFE),
        ext(0x4000, 0xD49A784BCD1B8AFF), ext(0x4000, 0xD49A784BCD1B8AFE)],
    2: [ext(0x3FFF, 0xB8AA3B295C17F0BC), ext(0x3FFF, 0xB8AA3B295C17F0BB),
        ext(0x3FFF, 0xB8AA3B295C17F0BC), ext(0x3FFF, 0xB8AA3B295C17F0BB)],
    3: [ext(0x4000, 0xC90FDAA22168C235), ext(0x4000, 0xC90FDAA22168C234),
        ext(0x4000, 0xC90FDAA22168C235), ext(0x4000, 0xC90FDAA22168C234)],
    4: [ext(0x3FFD, 0x9A209A84FBCFF799), ext(0x3FFD, 0x9A209A84FBCFF798),
        ext(0x3FFD, 0x9A209A84FBCFF799), ext(0x3FFD, 0x9A209A84FBCFF798)],
    5: [ext(0x3FFE, 0xB17217F7D1CF79AC), ext(0x3FFE, 0xB17217F7D1CF79AB),
        ext(0x3FFE, 0xB17217F7D1CF79AC), ext(0x3FFE, 0xB17217F7D1CF79AB)],
    6: [ext(0x0000, 0)] * 4,
}
TERMS = 120


def powers_summed(z, alternating):
    """z + z^3/3 + z^5/5 + .., or with every second sign turned."""
    total, power = Fraction(0), z
    for n in range(TERMS):
        turned = -1 if alternating and n % 2 else 1
        total += turned * power / (2 * n + 1)
        power *= z * z
    return total


def worked_out():
    """The constants to far more than 64 digits: what the series leave out lies below 2^-240."""
    log_two = 2 * powers_summed(Fraction(1, 3), False)
    log_ten = 3 * log_two + 2 * powers_summed(Fraction(1, 9), False)
    pi = 16 * powers_summed(Fraction(1, 5), True) - 4 * powers_summed(Fraction(1, 239), True)
    return {1: log_ten / log_two, 2: 1 / log_two, 3: pi, 4: log_two / log_ten, 5: log_two}


class Constants(unittest.TestCase):
    def test_as_written(self):
        for k, by_rounding in WRITTEN.items():
            for r, bits in zip(ROUNDINGS, by_rounding, strict=True):
                with self.subTest(k=k, r=r):
                    self.assertEqual(constant(k, r), [0, bits])

    def test_as_worked_out(self):
        for k, x in worked_out().items():
            for r in ROUNDINGS:
                with self.subTest(k=k, r=r):
                    self.assertEqual(constant(k, r), [0, rounded(x, 64, r)[0]])

    def test_one_and_zero_are_not_rounded(self):
        for r in ROUNDINGS:
            self.assertEqual(constant(0, r), [0, ONE])
            self.assertEqual(constant(6, r), [0, PLUS_ZERO])

    def test_up_is_one_more_than_down(self):
        for k in range(1, 6):
            self.assertEqual(constant(k, UP)[1], constant(k, DOWN)[1] + 1)
            self.assertEqual(constant(k, CUT), constant(k, DOWN))
            self.assertEqual(constant(k, NEAR), constant(k, DOWN if k == 1 else UP))


if __name__ == "__main__":
    unittest.main()
