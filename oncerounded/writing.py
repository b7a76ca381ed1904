"""Complex numbers become texts: short ones of tens, or those of sixteens."""

from oncerounded.decimals import power_of_ten
from oncerounded.decimals import rounded_decimal
from oncerounded.exact import term_of
from oncerounded.floats import is_infinite
from oncerounded.floats import is_loud
from oncerounded.floats import is_no_number
from oncerounded.floats import sign_of
from oncerounded.floats import without_sign
from oncerounded.rounding import NEAR
from oncerounded.rounding import goes_away

SIXTEEN_DIGITS = "0123456789abcdef"


# The greatest power of ten that isn't above the fraction.
def tens_exponent(above, below):
    if above >= below:
        return len(str(above // below)) - 1
    return -len(str((below - 1) // above))


# The whole number of units of ten to the exponent that is nearest to the fraction above / below, of those
# beside it that are read as the float again; 0 if none is.
def fitting_number(layout, unsigned, above, below, exponent):
    size = above * power_of_ten(max(-exponent, 0))
    unit = below * power_of_ten(max(exponent, 0))
    low = size // unit
    nearer_first = [low, low + 1]
    if goes_away(NEAR, 0, low, size % unit, unit):
        nearer_first = [low + 1, low]
    for number in nearer_first:
        if rounded_decimal(layout, NEAR, 0, number, exponent).bits == unsigned:
            return number
    return 0


# The first digit, the others behind a point, the letter and the exponent; digits may end in needless 0s.
def joined(digits, letter, exponent):
    kept = digits.rstrip("0")
    point = "." if len(kept) > 1 else ""
    return kept[:1] + point + kept[1:] + letter + str(exponent)


def short_text(layout, unsigned):
    if unsigned == 0:
        return "0e0"
    value = term_of(layout, unsigned)
    above = value.size << max(value.power, 0)
    below = 1 << max(-value.power, 0)
    exponent = tens_exponent(above, below)
    number = fitting_number(layout, unsigned, above, below, exponent)
    while number == 0:
        exponent = exponent - 1
        number = fitting_number(layout, unsigned, above, below, exponent)
    digits = str(number)
    return joined(digits, "e", exponent + len(digits) - 1)


def text_of_sixteens(layout, unsigned):
    if unsigned == 0:
        return "0x0p0"
    value = term_of(layout, unsigned)
    behind = value.size.bit_length() - 1
    places = (behind + 3) // 4
    # Filled up behind, so that the digits of two behind the first 1 are whole digits of sixteen.
    left = value.size << (4 * places - behind)
    digits = ""
    while left > 0:
        digits = SIXTEEN_DIGITS[left % 16] + digits
        left = left // 16
    return "0x" + joined(digits, "p", value.power + behind)


# A float's text without its sign.
def float_text(layout, form, bits):
    if is_no_number(layout, bits):
        return "loud" if is_loud(layout, bits) else "quiet"
    if is_infinite(layout, bits):
        return "inf"
    unsigned = without_sign(layout, bits)
    return short_text(layout, unsigned) if form == 0 else text_of_sixteens(layout, unsigned)


# form 0 short texts, 1 those of sixteens.
def written(layout, form, x):
    re_sign = "-" if sign_of(layout, x[0]) == 1 else ""
    im_sign = "-" if sign_of(layout, x[1]) == 1 else "+"
    return re_sign + float_text(layout, form, x[0]) + im_sign + float_text(layout, form, x[1]) + "i"
