"""Singles, doubles and whole numbers taken in as extended numbers."""

from wideunit.codes import SMALL_IN
from wideunit.floats import FRACTION_PLACES, Number, finite_bits, infinite_bits
from wideunit.formats import shown_bits
from wideunit.operands import no_number_told


def loaded_narrow(form, x):
    """The number and flags of a single or double one's bits."""
    sign = x >> form.sign_place
    exponent_bits = (x >> form.significand_places) & form.all_exponent_bits
    fraction = shown_bits(form, x)
    if exponent_bits == form.all_exponent_bits:
        return loaded_special(sign, fraction << (FRACTION_PLACES - form.significand_places))
    last_power = max(exponent_bits, 1) + form.least_exponent - form.digits
    if exponent_bits == 0:
        return [finite_bits(sign, fraction, last_power), SMALL_IN if fraction else 0]
    return [finite_bits(sign, fraction + (1 << form.significand_places), last_power), 0]


def loaded_special(sign, fraction):
    """An infinite, quiet or loud one, which it is in the wide format too."""
    number = Number(infinite_bits(sign) | fraction)
    came = no_number_told([number])
    return [number.bits, 0] if came is None else came


def whole_is_too_far(z):
    return z < -(2 ** 63) or z > 2 ** 63 - 1


def loaded_whole(z):
    return finite_bits(1 if z < 0 else 0, abs(z), 0)
