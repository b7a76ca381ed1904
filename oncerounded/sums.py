"""Sums of complex numbers and of their products."""

from oncerounded.exact import term_of
from oncerounded.floats import small_flag
from oncerounded.kinds import finite_number
from oncerounded.products import imaginary_terms
from oncerounded.products import product
from oncerounded.products import real_terms
from oncerounded.rounding import rounded_total
from oncerounded.rounding import told
from oncerounded.steps import add_step
from oncerounded.steps import sub_step


def added(layout, r, x, y):
    return told(add_step(layout, r, x[0], y[0]), add_step(layout, r, x[1], y[1]), 0)


def subtracted(layout, r, x, y):
    return told(sub_step(layout, r, x[0], y[0]), sub_step(layout, r, x[1], y[1]), 0)


# z and the products of the pairs (x, y), all of finite ones: nothing is rounded before the end.
def finite_sum(layout, r, z, pairs):
    re = [term_of(layout, z[0])]
    im = [term_of(layout, z[1])]
    operands = list(z)
    for pair in pairs:
        re.extend(real_terms(layout, pair[0], pair[1]))
        im.extend(imaginary_terms(layout, pair[0], pair[1]))
        operands.extend(pair[0] + pair[1])
    return told(rounded_total(layout, r, re), rounded_total(layout, r, im), small_flag(layout, operands))


# x y + z.
def fused_sum(layout, r, x, y, z):
    if all([finite_number(layout, number) for number in [x, y, z]]):
        return finite_sum(layout, r, z, [(x, y)])
    between = product(layout, r, x, y)
    answer = added(layout, r, between[:2], z)
    return [answer[0], answer[1], between[2] | answer[2]]


def sum_in_order(layout, r, z, pairs):
    so_far = list(z)
    flags = 0
    for pair in pairs:
        answer = fused_sum(layout, r, pair[0], pair[1], so_far)
        so_far = answer[:2]
        flags = flags | answer[2]
    return so_far + [flags]


# z + x_0 y_0 + x_1 y_1 and on.
def dot_sum(layout, r, z, pairs):
    finite_pairs = [finite_number(layout, pair[0]) and finite_number(layout, pair[1]) for pair in pairs]
    if finite_number(layout, z) and all(finite_pairs):
        return finite_sum(layout, r, z, pairs)
    return sum_in_order(layout, r, z, pairs)
