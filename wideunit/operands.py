"""What the kinds of the operands alone decide, before an operation is done or beside it."""

from wideunit.codes import DIVIDED_BY_ZERO, INVALID, SMALL_IN
from wideunit.floats import EMPTY, LOUD, ODD, QUIET, QUIET_BIT, is_no_number, is_small


def no_number_told(operands):
    """The bits and flags that come of odd, quiet and loud operands; None if there are none."""
    kinds = [number.kind for number in operands]
    if ODD in kinds:
        return [EMPTY, INVALID]
    if QUIET not in kinds and LOUD not in kinds:
        return None
    flags = INVALID if LOUD in kinds else 0
    return [chosen(operands).bits | QUIET_BIT, flags]


def chosen(operands):
    """Which of the quiet and loud operands is told."""
    candidates = [number for number in operands if is_no_number(number)]
    return max(candidates, key=precedence)


def precedence(number):
    # A quiet one's significand lies above every loud one's, so the quiet one comes first by this too.
    return (number.significand, 1 - number.sign)


def with_small_told(told, operands):
    """The told numbers, flags last, with the flag of small operands added where it may stand."""
    flags = told[-1]
    if (flags & (INVALID | DIVIDED_BY_ZERO)) == 0 and any([is_small(number) for number in operands]):
        flags = flags + SMALL_IN
    return told[:-1] + [flags]
