"""An exact value becomes a float, rounded once, with its flags."""

from oncerounded.exact import Term
from oncerounded.exact import total_of
from oncerounded.floats import INEXACT
from oncerounded.floats import OVERFLOW
from oncerounded.floats import UNDERFLOW
from oncerounded.floats import UP

NEAR = 0
DOWN = 1
UPWARD = 2
CUT = 3


# A float that's told, and the flags it came with.
class Part:
    def __init__(self, bits, flags):
        self.bits = bits
        self.flags = flags


# A whole multiple that stands for an exact size; side is 1 if it's above it, -1 below, 0 the same.
class Multiple:
    def __init__(self, times, side):
        self.times = times
        self.side = side


# What a call answers behind its 0.
def told(re, im, more_flags):
    return [re.bits, im.bits, re.flags | im.flags | more_flags]


def signed(layout, sign, unsigned):
    return unsigned | layout.sign_bit if sign == 1 else unsigned


# Whether the size grows, when lost of a whole one is to be cut off behind kept.
def goes_away(r, sign, kept, lost, whole):
    if r == NEAR:
        return 2 * lost > whole or (2 * lost == whole and kept % 2 == 1)
    if r == DOWN:
        return sign == 1
    if r == UPWARD:
        return sign == 0
    return False


# The exact value's size as a whole multiple of two to the power.
def to_multiple(r, exact, power):
    shift = power - exact.power
    if shift <= 0:
        return Multiple(exact.size << -shift, 0)
    kept = exact.size >> shift
    lost = exact.size - (kept << shift)
    if lost == 0:
        return Multiple(kept, 0)
    if goes_away(r, exact.sign, kept, lost, 1 << shift):
        return Multiple(kept + 1, 1)
    return Multiple(kept, -1)


def overflowed(layout, r, sign):
    toward_zero = r == CUT or (r == DOWN and sign == 0) or (r == UPWARD and sign == 1)
    if toward_zero:
        return Part(signed(layout, sign, layout.infinite - 1), OVERFLOW | INEXACT)
    return Part(signed(layout, sign, layout.infinite), OVERFLOW | INEXACT | UP)


def packed(layout, sign, multiple, power, flags_if_inexact):
    # Added, not put side by side: a multiple that grew by a digit so raises the exponent by itself.
    unsigned = ((power - layout.lowest) << (layout.digits - 1)) + multiple.times
    flags = 0 if multiple.side == 0 else flags_if_inexact
    if multiple.side > 0:
        flags = flags | UP
    return Part(signed(layout, sign, unsigned), flags)


# An exact value that isn't 0, rounded to all the format's digits.
def rounded(layout, r, exact):
    power = exact.power + exact.size.bit_length() - layout.digits
    multiple = to_multiple(r, exact, power)
    reach = multiple.times.bit_length() + power
    if reach > layout.emax + 1:
        return overflowed(layout, r, exact.sign)
    if reach > layout.emin:
        return packed(layout, exact.sign, multiple, power, INEXACT)
    # The multiple told is taken from the exact value again: rounding the rounded one would be twice.
    again = to_multiple(r, exact, layout.lowest)
    return packed(layout, exact.sign, again, layout.lowest, UNDERFLOW | INEXACT)


# A value that rounds as one does which lies within size and size + 1, if size has more digits than
# the format: no float and no middle of two lies between, so one more digit tells all that's asked.
def stand_in(sign, size, power, is_whole):
    return Term(sign, 2 * size + (0 if is_whole else 1), power - 1)


# The zero that terms come to; where their signs are alike they can only be zeros themselves.
def exact_zero(layout, r, terms):
    minuses = sum([term.sign for term in terms])
    if minuses == 0:
        return Part(0, 0)
    if minuses == len(terms) or r == DOWN:
        return Part(layout.sign_bit, 0)
    return Part(0, 0)


def rounded_total(layout, r, terms):
    total = total_of(terms)
    if total.size == 0:
        return exact_zero(layout, r, terms)
    return rounded(layout, r, total)


# The sum of the terms by the value below, which is above 0.
def rounded_quotient(layout, r, terms, below):
    above = total_of(terms)
    if above.size == 0:
        return exact_zero(layout, r, terms)
    missing = layout.digits + 2 + below.size.bit_length() - above.size.bit_length()
    shift = max(missing, 0)
    widened = above.size << shift
    is_whole = widened % below.size == 0
    power = above.power - shift - below.power
    return rounded(layout, r, stand_in(above.sign, widened // below.size, power, is_whole))
