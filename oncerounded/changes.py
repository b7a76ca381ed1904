"""Complex numbers of one format become those of another, or of the same."""

from oncerounded.exact import term_of
from oncerounded.floats import is_infinite
from oncerounded.floats import is_no_number
from oncerounded.floats import loud_flag
from oncerounded.floats import made_quiet
from oncerounded.floats import sign_of
from oncerounded.floats import small_flag
from oncerounded.rounding import Part
from oncerounded.rounding import rounded_total
from oncerounded.rounding import signed
from oncerounded.rounding import told


# A no number's fraction lies at the highest bits, so what is missing or too much is behind.
def changed_no_number(source, target, bits):
    # Quiet before it's cut, so that never nothing is left, which would be infinite.
    fraction = made_quiet(source, bits) % source.smallest_normal
    shift = target.digits - source.digits
    moved = fraction << shift if shift >= 0 else fraction >> -shift
    return Part(signed(target, sign_of(source, bits), target.infinite + moved), loud_flag(source, [bits]))


def changed_part(source, target, r, bits):
    if is_no_number(source, bits):
        return changed_no_number(source, target, bits)
    if is_infinite(source, bits):
        return Part(signed(target, sign_of(source, bits), target.infinite), 0)
    return rounded_total(target, r, [term_of(source, bits)])


def changed(source, target, r, x):
    re = changed_part(source, target, r, x[0])
    im = changed_part(source, target, r, x[1])
    return told(re, im, small_flag(source, x))
