"""Extended numbers given out as singles and doubles: the bits and the flags."""

from wideunit.floats import FRACTION_PLACES, INFINITE, ZERO, Number, is_no_number
from wideunit.formats import endless_bits, joined
from wideunit.operands import no_number_told
from wideunit.rounding import rounded_to


def stored_narrow(form, r, a):
    if is_no_number(a):
        return stored_no_number(form, a)
    if a.kind == INFINITE:
        return [endless_bits(form, a.sign), 0]
    if a.kind == ZERO:
        return [joined(form, a.sign, 0, 0), 0]
    return rounded_to(form, a.sign, a.significand, a.power, form.digits, r)


def stored_no_number(form, a):
    # Cut to a narrow format, the empty one becomes that format's own.
    came = no_number_told([a])
    told = Number(came[0])
    highest = told.significand >> (FRACTION_PLACES - form.significand_places)
    return [joined(form, told.sign, form.all_exponent_bits, highest), came[1]]
