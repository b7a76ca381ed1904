"""Sums of complex numbers and of their products."""

from oncerounded.exact import term_of
from oncerounded.floats import small_flag
from oncerounded.kinds import finite_number
from oncerounded.products import imaginary_terms
from oncerounded.products import product
from oncerounded.products import real_terms
from oncerounded.rounding import rounded_total
from oncerounded.rounding import told
from oncerounded.steps import add_step
from oncerounded.steps import sub_step


def added(layout, r, x, y):
    return told(add_step(layout, r, x[0], y[0]), add_step(layout, r, x[1], y[1]), 0)


def subtracted(layout, r, x, y):
    return told(sub_step(layout, r, x[0], y[0]), sub_step(layout, r, x[1], y[1]), 0)


# x y + z of finite ones: no product is rounded by itself.
def finite_fused(layout, r, x, y, z):
    re = rounded_total(layout, r, real_terms(layout, x, y) + [term_of(layout, z[0])])
    im = rounded_total(layout, r, imaginary_terms(layout, x, y) + [term_of(layout, z[1])])
    return told(re, im, small_flag(layout, x + y + z))


# x y + z.
def fused_sum(layout, r, x, y, z):
    if all([finite_number(layout, number) for number in [x, y, z]]):
        return finite_fused(layout, r, x, y, z)
    between = product(layout, r, x, y)
    answer = added(layout, r, between[:2], z)
    return [answer[0], answer[1], between[2] | answer[2]]
