"""Extended numbers given out as singles, doubles and whole numbers, and the flags."""

from wideunit.codes import INVALID
from wideunit.floats import FRACTION_PLACES, INFINITE, ZERO, Number, is_finite, is_no_number
from wideunit.formats import endless_bits, joined
from wideunit.operands import no_number_told
from wideunit.rounding import rounded_to, rounded_whole


def stored_narrow(form, r, a):
    if is_no_number(a):
        return stored_no_number(form, a)
    if a.kind == INFINITE:
        return [endless_bits(form, a.sign), 0]
    if a.kind == ZERO:
        return [joined(form, a.sign, 0, 0), 0]
    return rounded_to(form, a.sign, a.significand, a.power, form.digits, r)


def stored_no_number(form, a):
    # Cut to a narrow format, the empty one becomes that format's own.
    came = no_number_told([a])
    told = Number(came[0])
    highest = told.significand >> (FRACTION_PLACES - form.significand_places)
    return [joined(form, told.sign, form.all_exponent_bits, highest), came[1]]


def stored_whole(n, r, a):
    lowest = -(1 << (n - 1))
    if not is_finite(a):
        return [lowest, INVALID]
    came = rounded_whole(a.sign, a.significand, a.power, r)
    whole = -came[0] if a.sign else came[0]
    # Asked of the rounded number: rounding may lead over either end, or back within it.
    if whole < lowest or whole >= -lowest:
        return [lowest, INVALID]
    return [whole, came[1]]
