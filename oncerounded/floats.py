"""The three formats: how a float's bits are laid out, and what kind of float they are."""

# Bits in all, digits of two, lowest and highest exponent of half, single and double.
LAYOUTS = ((16, 11, -14, 15), (32, 24, -126, 127), (64, 53, -1022, 1023))

INVALID = 1
SMALL_CAME = 2
DIVIDED_BY_ZERO = 4
OVERFLOW = 8
UNDERFLOW = 16
INEXACT = 32
UP = 128


# One format: its digits and exponents, and the bits that floats are put together of.
class Layout:
    def __init__(self, width, digits, emin, emax):
        self.limit = 1 << width
        self.digits = digits
        self.emin = emin
        self.emax = emax
        # Every finite float is a whole multiple of two to this power.
        self.lowest = emin - digits + 1
        self.sign_bit = 1 << (width - 1)
        # The bits of plus 2^emin, a loud one's missing bit, plus 1, plus infinite, and the empty one.
        self.smallest_normal = 1 << (digits - 1)
        self.quiet_bit = 1 << (digits - 2)
        self.unity = emax << (digits - 1)
        self.infinite = (2 * emax + 1) << (digits - 1)
        self.empty = self.sign_bit | self.infinite | self.quiet_bit


def layout_of(f):
    row = LAYOUTS[f]
    return Layout(row[0], row[1], row[2], row[3])


def are_bits(layout, operands):
    return all([bits < layout.limit for bits in operands])


def sign_of(layout, bits):
    return 1 if bits & layout.sign_bit else 0


def without_sign(layout, bits):
    return bits & (layout.sign_bit - 1)


def turned(layout, bits):
    return bits ^ layout.sign_bit


def with_sign_of(layout, unsigned, bits):
    return unsigned | (bits & layout.sign_bit)


def is_zero(layout, bits):
    return without_sign(layout, bits) == 0


def is_small(layout, bits):
    return 0 < without_sign(layout, bits) < layout.smallest_normal


def is_finite(layout, bits):
    return without_sign(layout, bits) < layout.infinite


def is_infinite(layout, bits):
    return without_sign(layout, bits) == layout.infinite


def is_no_number(layout, bits):
    return without_sign(layout, bits) > layout.infinite


def is_loud(layout, bits):
    return is_no_number(layout, bits) and not bits & layout.quiet_bit


def made_quiet(layout, bits):
    return bits | layout.quiet_bit


def small_flag(layout, operands):
    return SMALL_CAME if any([is_small(layout, bits) for bits in operands]) else 0


def loud_flag(layout, operands):
    return INVALID if any([is_loud(layout, bits) for bits in operands]) else 0
