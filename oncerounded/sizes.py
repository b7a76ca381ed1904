"""The size of a complex number and the size's square: abs and norm."""

from oncerounded.exact import product_of
from oncerounded.exact import term_of
from oncerounded.exact import total_of
from oncerounded.exact import whole_root
from oncerounded.floats import small_flag
from oncerounded.kinds import infinite_number
from oncerounded.kinds import none_number
from oncerounded.rounding import Part
from oncerounded.rounding import rounded
from oncerounded.rounding import rounded_total
from oncerounded.rounding import stand_in
from oncerounded.steps import what_comes


def squares_of(layout, x):
    terms = [term_of(layout, bits) for bits in x]
    return [product_of(term, term) for term in terms]


# The root of the sum of two squares.
def rounded_root(layout, r, squares):
    square = total_of(squares)
    if square.size == 0:
        return Part(0, 0)
    places = layout.digits + 2
    widened = square.size << (2 * places)
    found = whole_root(widened)
    # Squares have even powers, so half of it is one too.
    return rounded(layout, r, stand_in(0, found, square.power // 2 - places, found * found == widened))


def finite_size(layout, operation, r, x):
    squares = squares_of(layout, x)
    part = rounded_root(layout, r, squares) if operation == 0 else rounded_total(layout, r, squares)
    return [part.bits, part.flags | small_flag(layout, x)]


# operation 0 abs, 1 norm.
def size_of(layout, operation, r, x):
    if infinite_number(layout, x):
        return [layout.infinite, 0]
    if none_number(layout, x):
        part = what_comes(layout, x)
        return [part.bits, part.flags]
    return finite_size(layout, operation, r, x)
