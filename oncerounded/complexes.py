"""The calls. Each answers one list: 0 and what it tells, or a refusal."""

from oncerounded.changes import changed
from oncerounded.floats import are_bits
from oncerounded.floats import layout_of
from oncerounded.floats import loud_flag
from oncerounded.kinds import kind_number
from oncerounded.kinds import same_number
from oncerounded.products import product
from oncerounded.quotients import quotient
from oncerounded.reading import Cursor
from oncerounded.reading import NoSuchText
from oncerounded.reading import read_number
from oncerounded.roots import root
from oncerounded.sizes import size_of
from oncerounded.sums import added
from oncerounded.sums import dot_sum
from oncerounded.sums import fused_sum
from oncerounded.sums import subtracted
from oncerounded.turns import conjugate
from oncerounded.turns import projection
from oncerounded.turns import times_i
from oncerounded.turns import times_minus_i
from oncerounded.writing import written

REFUSED = -1
NO_TEXT = -2
FORMATS = 3
ROUNDINGS = 4
MOST_PAIRS = 32
MOST_OCTETS = 256


# choices: each number that chooses, and how many choices there are; bits: what is to be the format's.
def is_right(f, choices, bits):
    if not all([0 <= choice[0] < choice[1] for choice in [(f, FORMATS)] + choices]):
        return False
    return are_bits(layout_of(f), bits)


def result_of_two(layout, operation, r, x, y):
    if operation == 0:
        return added(layout, r, x, y)
    if operation == 1:
        return subtracted(layout, r, x, y)
    if operation == 2:
        return product(layout, r, x, y)
    return quotient(layout, r, x, y)


def result_of_one(layout, operation, r, x):
    if operation == 0:
        return root(layout, r, x)
    if operation == 1:
        return conjugate(layout, x)
    if operation == 2:
        return projection(layout, x)
    if operation == 3:
        return times_i(layout, x)
    return times_minus_i(layout, x)


# The factors (x_k, y_k), or the conjugates of x_k and y_k, of four numbers for each pair.
def factors_of(layout, conj, pairs):
    factors = []
    for k in range(0, len(pairs), 4):
        x = pairs[k:k + 2]
        y = pairs[k + 2:k + 4]
        factors.append((conjugate(layout, x)[:2] if conj == 1 else x, y))
    return factors


# operation 0 add, 1 sub, 2 mul, 3 div: [0, re, im, flags] or [-1].
def two(f, operation, r, x, y):
    if not is_right(f, [(operation, 4), (r, ROUNDINGS)], x + y):
        return [REFUSED]
    return [0] + result_of_two(layout_of(f), operation, r, x, y)


# operation 0 sqrt, 1 conj, 2 proj, 3 times i, 4 times -i: [0, re, im, flags] or [-1].
def one(f, operation, r, x):
    if not is_right(f, [(operation, 5), (r, ROUNDINGS)], x):
        return [REFUSED]
    return [0] + result_of_one(layout_of(f), operation, r, x)


# operation 0 abs, 1 norm: [0, float, flags] or [-1].
def real(f, operation, r, x):
    if not is_right(f, [(operation, 2), (r, ROUNDINGS)], x):
        return [REFUSED]
    return [0] + size_of(layout_of(f), operation, r, x)


# x y + z: [0, re, im, flags] or [-1].
def fused(f, r, x, y, z):
    if not is_right(f, [(r, ROUNDINGS)], x + y + z):
        return [REFUSED]
    return [0] + fused_sum(layout_of(f), r, x, y, z)


# z + x_0 y_0 + x_1 y_1 and on, conj 1 with each x_k's conjugate: [0, re, im, flags] or [-1].
def dot(f, r, conj, z, pairs):
    if len(pairs) > 4 * MOST_PAIRS or not is_right(f, [(r, ROUNDINGS), (conj, 2)], z + pairs):
        return [REFUSED]
    layout = layout_of(f)
    return [0] + dot_sum(layout, r, z, factors_of(layout, conj, pairs))


# Whether both parts are equal by value: [0, 1 or 0, flags] or [-1].
def same(f, x, y):
    if not is_right(f, [], x + y):
        return [REFUSED]
    layout = layout_of(f)
    return [0, 1 if same_number(layout, x, y) else 0, loud_flag(layout, x + y)]


# x in the format g: [0, re, im, flags] or [-1].
def change(f, g, r, x):
    if not is_right(f, [(g, FORMATS), (r, ROUNDINGS)], x):
        return [REFUSED]
    return [0] + changed(layout_of(f), layout_of(g), r, x)


# 0 zero, 1 finite else, 2 infinite, 3 none: [0, that number, 0] or [-1].
def kind(f, x):
    if not is_right(f, [], x):
        return [REFUSED]
    return [0, kind_number(layout_of(f), x), 0]


# form 0 short texts, 1 those of sixteens: [0, bytes] or [-1].
def text(f, form, x):
    if not is_right(f, [(form, 2)], x):
        return [REFUSED]
    return [0] + [ord(mark) for mark in written(layout_of(f), form, x)]


# [0, re, im, flags], [-1], or [-2, how many bytes some right text begins with].
def read(f, r, octets):
    if len(octets) > MOST_OCTETS or not is_right(f, [(r, ROUNDINGS)], []):
        return [REFUSED]
    cursor = Cursor(octets)
    try:
        return [0] + read_number(layout_of(f), r, cursor)
    except NoSuchText:
        return [NO_TEXT, cursor.place]
