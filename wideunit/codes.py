"""The numbers by which a call tells roundings and flags."""

NEAR = 0
DOWN = 1
UPWARD = 2
CUT = 3

INVALID = 1
SMALL_IN = 2
DIVIDED_BY_ZERO = 4
OVERFLOW = 8
UNDERFLOW = 16
INEXACT = 32
UP = 128
