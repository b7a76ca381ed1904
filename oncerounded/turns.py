"""What is done by signs alone, and the one point where all infinite numbers meet. Nothing here has flags."""

from oncerounded.floats import turned
from oncerounded.floats import with_sign_of
from oncerounded.kinds import infinite_number


def conjugate(layout, x):
    return [x[0], turned(layout, x[1]), 0]


def projection(layout, x):
    if infinite_number(layout, x):
        return [layout.infinite, with_sign_of(layout, 0, x[1]), 0]
    return [x[0], x[1], 0]


def times_i(layout, x):
    return [turned(layout, x[1]), x[0], 0]


def times_minus_i(layout, x):
    return [x[1], turned(layout, x[0]), 0]
