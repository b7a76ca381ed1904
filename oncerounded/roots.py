"""The square root of a complex number."""

from oncerounded.exact import common_power
from oncerounded.exact import in_units
from oncerounded.exact import term_of
from oncerounded.exact import whole_root
from oncerounded.floats import is_infinite
from oncerounded.floats import is_no_number
from oncerounded.floats import loud_flag
from oncerounded.floats import made_quiet
from oncerounded.floats import sign_of
from oncerounded.floats import small_flag
from oncerounded.floats import with_sign_of
from oncerounded.kinds import zero_number
from oncerounded.rounding import Part
from oncerounded.rounding import rounded
from oncerounded.rounding import signed
from oncerounded.rounding import stand_in
from oncerounded.rounding import told
from oncerounded.steps import what_comes


# The root of (m + addend) / 2, which isn't 0, where m is the root of the square; times two to the power.
def half_root(layout, sign, square, addend, power):
    places = layout.digits + 2
    while True:
        # m isn't rounded before the addend comes to it: what both roots leave over is all that is_whole asks.
        inner = square << (4 * places - 2)
        size = whole_root(inner)
        outer = size + addend * (1 << (2 * places - 1))
        found = whole_root(outer)
        if found.bit_length() > layout.digits:
            is_whole = size * size == inner and found * found == outer
            return stand_in(sign, found, power - places, is_whole)
        # A small part beside a great one needs more digits of m before it shows its own.
        places = 2 * places


def half_root_part(layout, r, sign, square, addend, power):
    # Exactly 0 has no digits to look for.
    if addend <= 0 and addend * addend == square:
        return Part(signed(layout, sign, 0), 0)
    return rounded(layout, r, half_root(layout, sign, square, addend, power))


def finite_root(layout, r, x):
    terms = [term_of(layout, x[0]), term_of(layout, x[1])]
    power = common_power(terms)
    # An even power, so that its root is a power of two as well.
    power = power - power % 2
    a = in_units(terms[0], power)
    b = in_units(terms[1], power)
    square = a * a + b * b
    re = half_root_part(layout, r, 0, square, a, power // 2)
    im = half_root_part(layout, r, sign_of(layout, x[1]), square, -a, power // 2)
    return told(re, im, small_flag(layout, x))


def root_of_infinite_real(layout, x):
    a = x[0]
    b = x[1]
    flags = loud_flag(layout, x)
    if sign_of(layout, a) == 0:
        im = made_quiet(layout, b) if is_no_number(layout, b) else with_sign_of(layout, 0, b)
        return [a, im, flags]
    re = made_quiet(layout, b) if is_no_number(layout, b) else 0
    return [re, with_sign_of(layout, layout.infinite, b), flags]


def root(layout, r, x):
    if zero_number(layout, x):
        return [0, x[1], 0]
    if is_infinite(layout, x[1]):
        return [layout.infinite, x[1], loud_flag(layout, x)]
    if is_infinite(layout, x[0]):
        return root_of_infinite_real(layout, x)
    if is_no_number(layout, x[0]) or is_no_number(layout, x[1]):
        part = what_comes(layout, x)
        return told(part, part, 0)
    return finite_root(layout, r, x)
