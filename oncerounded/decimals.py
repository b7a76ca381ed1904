"""Whole numbers times powers of ten, rounded once."""

from oncerounded.exact import Term
from oncerounded.rounding import rounded_quotient

# What is read has at most 256 digits: beyond these powers of ten it's too great or too small for every format
# all the same, and a longer power would only cost time.
HIGHEST = 400
LOWEST = -700


def power_of_ten(times):
    power = 1
    square = 10
    left = times
    while left > 0:
        if left % 2 == 1:
            power = power * square
        square = square * square
        left = left // 2
    return power


# The number times ten to the exponent; of 0 a zero with the sign.
def rounded_decimal(layout, r, sign, number, exponent):
    within = max(min(exponent, HIGHEST), LOWEST)
    above = Term(sign, number * power_of_ten(max(within, 0)), 0)
    below = Term(0, power_of_ten(max(-within, 0)), 0)
    return rounded_quotient(layout, r, [above], below)
