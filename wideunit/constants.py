"""The constants of the unit, to 64 digits by each rounding."""

from wideunit.codes import NEAR, UPWARD

# Rounded down: 1, the logarithm of 10 to 2, of e to 2, pi, the logarithm of 2 to 10, of 2 to e, plus zero.
LOWER = (
    0x3FFF8000000000000000,
    0x4000D49A784BCD1B8AFE,
    0x3FFFB8AA3B295C17F0BB,
    0x4000C90FDAA22168C234,
    0x3FFD9A209A84FBCFF798,
    0x3FFEB17217F7D1CF79AB,
    0x00000000000000000000,
)
IS_EXACT = (True, False, False, False, False, False, True)
# Whether the nearest one is the one above.
NEARER_ABOVE = (False, False, True, True, True, True, False)


def constant_bits(k, r):
    goes_up = (r == UPWARD and not IS_EXACT[k]) or (r == NEAR and NEARER_ABOVE[k])
    return LOWER[k] + 1 if goes_up else LOWER[k]
