"""Exact values: whole numbers times powers of two, with a sign that a zero has too."""

from oncerounded.floats import sign_of
from oncerounded.floats import without_sign


# size times two to the power, minus that if the sign is 1.
class Term:
    def __init__(self, sign, size, power):
        self.sign = sign
        self.size = size
        self.power = power


# The exact value of a finite float.
def term_of(layout, bits):
    unsigned = without_sign(layout, bits)
    sign = sign_of(layout, bits)
    exponent = unsigned // layout.smallest_normal
    if exponent == 0:
        return Term(sign, unsigned, layout.lowest)
    fraction = unsigned % layout.smallest_normal
    return Term(sign, layout.smallest_normal + fraction, layout.lowest + exponent - 1)


def opposite(term):
    return Term(1 - term.sign, term.size, term.power)


def product_of(left, right):
    return Term(left.sign ^ right.sign, left.size * right.size, left.power + right.power)


def common_power(terms):
    # Zeros are passed over: their power would only make the others' whole numbers long.
    return min([term.power for term in terms if term.size != 0], default=0)


# The term as a whole number of units of two to that power, which isn't above its own.
def in_units(term, power):
    if term.size == 0:
        return 0
    size = term.size << (term.power - power)
    return -size if term.sign == 1 else size


# The exact sum; the sign of a sum that's zero has no meaning yet.
def total_of(terms):
    power = common_power(terms)
    total = sum([in_units(term, power) for term in terms])
    return Term(1 if total < 0 else 0, abs(total), power)


# The greatest whole number whose square isn't above the number.
def whole_root(number):
    if number == 0:
        return 0
    # From above, each guess is lower until the root is reached.
    guess = 1 << ((number.bit_length() + 1) // 2)
    better = (guess + number // guess) // 2
    while better < guess:
        guess = better
        better = (guess + number // guess) // 2
    return guess
