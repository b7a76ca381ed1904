"""The product of two complex numbers."""

from oncerounded.exact import opposite
from oncerounded.exact import product_of
from oncerounded.exact import term_of
from oncerounded.floats import INVALID
from oncerounded.floats import is_infinite
from oncerounded.floats import is_no_number
from oncerounded.floats import small_flag
from oncerounded.kinds import direction_of
from oncerounded.kinds import finite_number
from oncerounded.kinds import infinite_number
from oncerounded.kinds import no_numbers_as_zeros
from oncerounded.rounding import rounded_total
from oncerounded.rounding import told
from oncerounded.steps import add_step
from oncerounded.steps import difference_of_products
from oncerounded.steps import mul_step
from oncerounded.steps import sub_step
from oncerounded.steps import sum_of_products
from oncerounded.steps import times_without_flags


# The two products that a finite product's real part is the sum of.
def real_terms(layout, x, y):
    ac = product_of(term_of(layout, x[0]), term_of(layout, y[0]))
    bd = product_of(term_of(layout, x[1]), term_of(layout, y[1]))
    return [ac, opposite(bd)]


# The two products that its imaginary part is the sum of.
def imaginary_terms(layout, x, y):
    ad = product_of(term_of(layout, x[0]), term_of(layout, y[1]))
    bc = product_of(term_of(layout, x[1]), term_of(layout, y[0]))
    return [ad, bc]


def finite_product(layout, r, x, y):
    re = rounded_total(layout, r, real_terms(layout, x, y))
    im = rounded_total(layout, r, imaginary_terms(layout, x, y))
    return told(re, im, small_flag(layout, x + y))


# The infinite product whose steps came to no numbers alone: its direction times infinite.
def recovered_product(layout, r, x, y):
    u = list(x)
    v = list(y)
    if infinite_number(layout, u):
        u = direction_of(layout, u)
        v = no_numbers_as_zeros(layout, v)
    if infinite_number(layout, v):
        v = direction_of(layout, v)
        u = no_numbers_as_zeros(layout, u)
    if not infinite_number(layout, x) and not infinite_number(layout, y):
        u = no_numbers_as_zeros(layout, u)
        v = no_numbers_as_zeros(layout, v)
    re = difference_of_products(layout, r, u[0], v[0], u[1], v[1])
    im = sum_of_products(layout, r, u[0], v[1], u[1], v[0])
    return [times_without_flags(layout, r, layout.infinite, bits) for bits in [re, im]]


# Whether the steps' result hides that something was infinite.
def is_lost(layout, x, y, products, re, im):
    if not is_no_number(layout, re.bits) or not is_no_number(layout, im.bits):
        return False
    if infinite_number(layout, x) or infinite_number(layout, y):
        return True
    return any([is_infinite(layout, part.bits) for part in products])


def product_in_steps(layout, r, x, y):
    p = mul_step(layout, r, x[0], y[0])
    q = mul_step(layout, r, x[1], y[1])
    s = mul_step(layout, r, x[0], y[1])
    t = mul_step(layout, r, x[1], y[0])
    re = sub_step(layout, r, p.bits, q.bits)
    im = add_step(layout, r, s.bits, t.bits)
    flags = p.flags | q.flags | s.flags | t.flags | re.flags | im.flags
    if not is_lost(layout, x, y, [p, q, s, t], re, im):
        return [re.bits, im.bits, flags]
    parts = recovered_product(layout, r, x, y)
    return told(parts[0], parts[1], flags & ~INVALID)


def product(layout, r, x, y):
    if finite_number(layout, x) and finite_number(layout, y):
        return finite_product(layout, r, x, y)
    return product_in_steps(layout, r, x, y)
