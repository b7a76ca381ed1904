"""Steps: add, sub and mul of two floats, of whatever kinds they are."""

from oncerounded.exact import product_of
from oncerounded.exact import term_of
from oncerounded.floats import INVALID
from oncerounded.floats import UP
from oncerounded.floats import is_infinite
from oncerounded.floats import is_no_number
from oncerounded.floats import is_zero
from oncerounded.floats import loud_flag
from oncerounded.floats import made_quiet
from oncerounded.floats import small_flag
from oncerounded.floats import turned
from oncerounded.floats import with_sign_of
from oncerounded.rounding import Part
from oncerounded.rounding import rounded_total


def has_no_number(layout, operands):
    return any([is_no_number(layout, bits) for bits in operands])


# The no number that comes of several floats, one of which is none.
def what_comes(layout, operands):
    first = [bits for bits in operands if is_no_number(layout, bits)][0]
    return Part(made_quiet(layout, first), loud_flag(layout, operands))


def invalid(layout):
    return Part(layout.empty, INVALID)


def total_step(layout, r, terms, came):
    part = rounded_total(layout, r, terms)
    return Part(part.bits, (part.flags & ~UP) | came)


def add_step(layout, r, a, b):
    if has_no_number(layout, [a, b]):
        return what_comes(layout, [a, b])
    came = small_flag(layout, [a, b])
    if is_infinite(layout, a) and is_infinite(layout, b) and a != b:
        return invalid(layout)
    if is_infinite(layout, a):
        return Part(a, came)
    if is_infinite(layout, b):
        return Part(b, came)
    return total_step(layout, r, [term_of(layout, a), term_of(layout, b)], came)


def sub_step(layout, r, a, b):
    # A no number comes through as it is, so it isn't turned.
    if is_no_number(layout, b):
        return add_step(layout, r, a, b)
    return add_step(layout, r, a, turned(layout, b))


def mul_step(layout, r, a, b):
    if has_no_number(layout, [a, b]):
        return what_comes(layout, [a, b])
    came = small_flag(layout, [a, b])
    if is_infinite(layout, a) or is_infinite(layout, b):
        if is_zero(layout, a) or is_zero(layout, b):
            return invalid(layout)
        return Part(with_sign_of(layout, layout.infinite, a ^ b), came)
    return total_step(layout, r, [product_of(term_of(layout, a), term_of(layout, b))], came)


# a c + b d in steps without flags: the bits alone.
def sum_of_products(layout, r, a, c, b, d):
    left = mul_step(layout, r, a, c).bits
    right = mul_step(layout, r, b, d).bits
    return add_step(layout, r, left, right).bits


# a c - b d in steps without flags: the bits alone.
def difference_of_products(layout, r, a, c, b, d):
    left = mul_step(layout, r, a, c).bits
    right = mul_step(layout, r, b, d).bits
    return sub_step(layout, r, left, right).bits


def times_without_flags(layout, r, factor, bits):
    return Part(mul_step(layout, r, factor, bits).bits, 0)
