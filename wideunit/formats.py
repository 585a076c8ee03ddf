"""The formats: how many digits of two, which exponents, and where the parts stand in the bits."""

SINGLE = 1


class Format:
    """A format by its digits, its greatest exponent, and how many of the digits its bits hold."""

    def __init__(self, digits, greatest_exponent, significand_places):
        self.digits = digits
        self.greatest_exponent = greatest_exponent
        self.least_exponent = 1 - greatest_exponent
        self.significand_places = significand_places
        self.all_exponent_bits = 2 * greatest_exponent + 1
        self.sign_place = significand_places + self.all_exponent_bits.bit_length()


def extended_format():
    return Format(64, 16383, 64)


def narrow_format(f):
    """Single or double: their highest digit is not among the bits."""
    return Format(24, 127, 23) if f == SINGLE else Format(53, 1023, 52)


def too_many_bits(form, bits):
    return bits >> (form.sign_place + 1) > 0


def shown_bits(form, whole):
    """What of a whole number stands in the significand's places."""
    return whole & ((1 << form.significand_places) - 1)


def joined(form, sign, exponent_bits, significand):
    high = (sign << form.sign_place) | (exponent_bits << form.significand_places)
    return high | shown_bits(form, significand)


def value_bits(form, sign, size, power):
    """The bits of the float of the very value size 2^power: there must be one."""
    if size == 0:
        return joined(form, sign, 0, 0)
    exponent = size.bit_length() - 1 + power
    exponent_bits = max(exponent - form.least_exponent + 1, 0)
    last_power = max(exponent, form.least_exponent) - form.digits + 1
    return joined(form, sign, exponent_bits, shifted(size, power - last_power))


def endless_bits(form, sign):
    """The bits of the infinite one."""
    return joined(form, sign, form.all_exponent_bits, 1 << (form.digits - 1))


def shifted(whole, places):
    """whole 2^places, cut to a whole number."""
    return whole << places if places >= 0 else whole >> -places
