"""The quotient of two complex numbers."""

from oncerounded.exact import opposite
from oncerounded.exact import product_of
from oncerounded.exact import term_of
from oncerounded.exact import total_of
from oncerounded.floats import DIVIDED_BY_ZERO
from oncerounded.floats import small_flag
from oncerounded.floats import with_sign_of
from oncerounded.kinds import direction_of
from oncerounded.kinds import finite_number
from oncerounded.kinds import none_number
from oncerounded.kinds import zero_number
from oncerounded.rounding import rounded_quotient
from oncerounded.rounding import told
from oncerounded.steps import difference_of_products
from oncerounded.steps import invalid
from oncerounded.steps import sum_of_products
from oncerounded.steps import times_without_flags
from oncerounded.steps import what_comes


def finite_quotient(layout, r, x, y):
    a = term_of(layout, x[0])
    b = term_of(layout, x[1])
    c = term_of(layout, y[0])
    d = term_of(layout, y[1])
    below = total_of([product_of(c, c), product_of(d, d)])
    re = rounded_quotient(layout, r, [product_of(a, c), product_of(b, d)], below)
    im = rounded_quotient(layout, r, [product_of(b, c), opposite(product_of(a, d))], below)
    return told(re, im, small_flag(layout, x + y))


def invalid_quotient(layout):
    return told(invalid(layout), invalid(layout), 0)


def quotient_by_zero(layout, r, x, y):
    if zero_number(layout, x):
        return invalid_quotient(layout)
    edge = with_sign_of(layout, layout.infinite, y[0])
    re = times_without_flags(layout, r, edge, x[0])
    im = times_without_flags(layout, r, edge, x[1])
    return told(re, im, DIVIDED_BY_ZERO if finite_number(layout, x) else 0)


# The factor, infinite or 0, times the numerators.
def quotient_of_directions(layout, r, factor, x, y):
    re = sum_of_products(layout, r, x[0], y[0], x[1], y[1])
    im = difference_of_products(layout, r, x[1], y[0], x[0], y[1])
    return told(times_without_flags(layout, r, factor, re), times_without_flags(layout, r, factor, im), 0)


def quotient(layout, r, x, y):
    if none_number(layout, x) or none_number(layout, y):
        part = what_comes(layout, x + y)
        return told(part, part, 0)
    if zero_number(layout, y):
        return quotient_by_zero(layout, r, x, y)
    if finite_number(layout, x) and finite_number(layout, y):
        return finite_quotient(layout, r, x, y)
    if finite_number(layout, y):
        return quotient_of_directions(layout, r, layout.infinite, direction_of(layout, x), y)
    if finite_number(layout, x):
        return quotient_of_directions(layout, r, 0, x, direction_of(layout, y))
    return invalid_quotient(layout)
