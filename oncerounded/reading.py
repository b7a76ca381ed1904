"""Texts become complex numbers, each part rounded once."""

from oncerounded.decimals import rounded_decimal
from oncerounded.exact import Term
from oncerounded.rounding import Part
from oncerounded.rounding import rounded_total
from oncerounded.rounding import signed
from oncerounded.rounding import told

EXPONENT_DIGITS = 5


# Raised where the text is none: the cursor then stands at the fault.
class NoSuchText(ValueError):
    pass


# The bytes of a text, and how many of them some right text begins with.
class Cursor:
    def __init__(self, octets):
        self.octets = list(octets)
        self.place = 0


# Digits as one whole number, and how many of them stand behind the point.
class Numeral:
    def __init__(self, whole, behind):
        self.whole = whole
        self.behind = behind


def at_end(cursor):
    return cursor.place == len(cursor.octets)


def takes(cursor, mark):
    if at_end(cursor) or cursor.octets[cursor.place] != ord(mark):
        return False
    cursor.place = cursor.place + 1
    return True


def needs(cursor, mark):
    if not takes(cursor, mark):
        raise NoSuchText()


# The value of the digit that's next, -1 if none is.
def next_digit(cursor, base):
    if at_end(cursor):
        return -1
    octet = cursor.octets[cursor.place]
    if ord("0") <= octet <= ord("9"):
        return octet - ord("0")
    if base == 16 and ord("a") <= octet <= ord("f"):
        return octet - ord("a") + 10
    return -1


def needed_digit(cursor, base):
    digit = next_digit(cursor, base)
    if digit < 0:
        raise NoSuchText()
    cursor.place = cursor.place + 1
    return digit


# The number with the digits behind it that are next, at most so many.
def with_digits(cursor, base, number, most):
    longer = number
    left = most
    while left > 0 and next_digit(cursor, base) >= 0:
        longer = longer * base + needed_digit(cursor, base)
        left = left - 1
    return longer


# Digits, perhaps a point and digits; the first digit is taken already.
def read_numeral(cursor, base, first):
    rest = len(cursor.octets)
    whole = with_digits(cursor, base, first, rest)
    if not takes(cursor, "."):
        return Numeral(whole, 0)
    point = cursor.place
    whole = with_digits(cursor, base, whole * base + needed_digit(cursor, base), rest)
    return Numeral(whole, cursor.place - point)


def read_exponent(cursor, letter):
    if not takes(cursor, letter):
        return 0
    is_minus = takes(cursor, "-")
    exponent = with_digits(cursor, 10, needed_digit(cursor, 10), EXPONENT_DIGITS - 1)
    return -exponent if is_minus else exponent


# A float's text behind its sign.
def read_float(layout, r, cursor, sign):
    if takes(cursor, "i"):
        needs(cursor, "n")
        needs(cursor, "f")
        return Part(signed(layout, sign, layout.infinite), 0)
    first = needed_digit(cursor, 10)
    if first == 0 and takes(cursor, "x"):
        numeral = read_numeral(cursor, 16, needed_digit(cursor, 16))
        exponent = read_exponent(cursor, "p")
        return rounded_total(layout, r, [Term(sign, numeral.whole, exponent - 4 * numeral.behind)])
    numeral = read_numeral(cursor, 10, first)
    exponent = read_exponent(cursor, "e")
    return rounded_decimal(layout, r, sign, numeral.whole, exponent - numeral.behind)


def read_number(layout, r, cursor):
    re = read_float(layout, r, cursor, 1 if takes(cursor, "-") else 0)
    im_sign = 0
    if not takes(cursor, "+"):
        needs(cursor, "-")
        im_sign = 1
    im = read_float(layout, r, cursor, im_sign)
    needs(cursor, "i")
    if not at_end(cursor):
        raise NoSuchText()
    return told(re, im, 0)
