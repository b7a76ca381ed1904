"""The kinds of complex numbers, and what becomes of their parts at the sphere's edge."""

from oncerounded.floats import is_finite
from oncerounded.floats import is_infinite
from oncerounded.floats import is_no_number
from oncerounded.floats import is_zero
from oncerounded.floats import with_sign_of


def finite_number(layout, x):
    return is_finite(layout, x[0]) and is_finite(layout, x[1])


def infinite_number(layout, x):
    # One infinite part is enough: a no number beside it doesn't count.
    return is_infinite(layout, x[0]) or is_infinite(layout, x[1])


def none_number(layout, x):
    return not finite_number(layout, x) and not infinite_number(layout, x)


def zero_number(layout, x):
    return is_zero(layout, x[0]) and is_zero(layout, x[1])


# 0 zero, 1 finite else, 2 infinite, 3 none.
def kind_number(layout, x):
    if zero_number(layout, x):
        return 0
    if finite_number(layout, x):
        return 1
    return 2 if infinite_number(layout, x) else 3


# Infinite parts become 1, others 0, with their signs.
def direction_of(layout, x):
    return [with_sign_of(layout, layout.unity if is_infinite(layout, bits) else 0, bits) for bits in x]


# Parts that are no numbers become 0 with their signs.
def no_numbers_as_zeros(layout, x):
    return [with_sign_of(layout, 0, bits) if is_no_number(layout, bits) else bits for bits in x]


def same_value(layout, a, b):
    if is_no_number(layout, a) or is_no_number(layout, b):
        return False
    return a == b or (is_zero(layout, a) and is_zero(layout, b))


def same_number(layout, x, y):
    return same_value(layout, x[0], y[0]) and same_value(layout, x[1], y[1])
