"""The document's words reckoned anew with fractions, to hold the program's answers against.

Nothing here comes from the package: floats are fields and fractions, and a root is known only by
comparing fractions with it.
"""

import functools
import re as patterns
from fractions import Fraction

NEAR, DOWN, UPWARD, CUT = range(4)
ROUNDINGS = (NEAR, DOWN, UPWARD, CUT)
FORMATS = (0, 1, 2)
ADD, SUB, MUL, DIV = range(4)
SQRT, CONJ, PROJ, TIMES_I, TIMES_MINUS_I = range(5)
ABS, NORM = range(2)
INVALID, SMALL, BY_ZERO, OVERFLOW, UNDERFLOW, INEXACT, UP = 1, 2, 4, 8, 16, 32, 128


def power_of_two(exponent):
    return Fraction(1 << exponent) if exponent >= 0 else Fraction(1, 1 << -exponent)


class Format:
    def __init__(self, width, exponent_bits, fraction_bits, emin, emax):
        self.width, self.exponent_bits, self.fraction_bits = width, exponent_bits, fraction_bits
        self.p, self.emin, self.emax = fraction_bits + 1, emin, emax
        self.all_ones = (1 << exponent_bits) - 1

    def make(self, sign, exponent, fraction):
        return (sign << (self.width - 1)) | (exponent << self.fraction_bits) | fraction

    def fields(self, bits):
        sign = bits >> (self.width - 1)
        exponent = (bits >> self.fraction_bits) & self.all_ones
        return sign, exponent, bits & ((1 << self.fraction_bits) - 1)

    def sign(self, bits):
        return self.fields(bits)[0]

    def kind(self, bits):
        sign, exponent, fraction = self.fields(bits)
        if exponent == 0:
            return "small" if fraction else "zero"
        if exponent < self.all_ones:
            return "normal"
        if fraction == 0:
            return "infinite"
        return "quiet" if fraction >> (self.fraction_bits - 1) else "loud"

    def finite(self, bits):
        return self.kind(bits) in ("zero", "small", "normal")

    def no_number(self, bits):
        return self.kind(bits) in ("quiet", "loud")

    def value(self, bits):
        sign, exponent, fraction = self.fields(bits)
        m = fraction + ((1 << (self.p - 1)) if exponent else 0)
        k = (exponent or 1) + self.emin - self.p
        return (-1 if sign else 1) * m * power_of_two(k)

    def zero(self, sign):
        return self.make(sign, 0, 0)

    def one(self, sign):
        return self.make(sign, self.emax, 0)

    def inf(self, sign):
        return self.make(sign, self.all_ones, 0)

    def largest(self, sign):
        return self.make(sign, self.all_ones - 1, (1 << self.fraction_bits) - 1)

    def quiet(self, sign=0, payload=0):
        return self.make(sign, self.all_ones, (1 << (self.fraction_bits - 1)) | payload)

    def loud(self, sign=0, payload=1):
        return self.make(sign, self.all_ones, payload)

    def empty(self):
        return self.quiet(1)

    def made_quiet(self, bits):
        return bits | (1 << (self.fraction_bits - 1))

    def turned(self, bits):
        return bits ^ (1 << (self.width - 1))

    def bits(self, value, sign=None):
        """Of a value that is one of the format's; of 0 the sign is told."""
        if sign is None:
            sign = 1 if value < 0 else 0
        size = abs(Fraction(value))
        if size == 0:
            return self.zero(sign)
        e = max(scale(size), self.emin)
        m = size / power_of_two(e - self.p + 1)
        if m.denominator != 1 or e > self.emax:
            raise ValueError("no number of the format")
        if m < 1 << (self.p - 1):
            return self.make(sign, 0, int(m))
        return self.make(sign, e + self.emax, int(m) - (1 << (self.p - 1)))


HALF = Format(16, 5, 10, -14, 15)
SINGLE = Format(32, 8, 23, -126, 127)
DOUBLE = Format(64, 11, 52, -1022, 1023)
BY_NUMBER = (HALF, SINGLE, DOUBLE)


def scale(size):
    """e with 2^e at most the size and the size below 2^(e + 1)."""
    e = size.numerator.bit_length() - size.denominator.bit_length()
    return e if power_of_two(e) <= size else e - 1


class Rational:
    def __init__(self, value):
        self.sign, self.size = (1 if value < 0 else 0), abs(value)

    def compare(self, fraction):
        return (self.size > fraction) - (self.size < fraction)

    def scale(self):
        return scale(self.size)

    def floor(self, unit):
        return self.size // unit


class Compared:
    """An exact size that's told by comparisons with fractions alone."""

    def __init__(self, sign):
        self.sign = sign
        self.found = None

    def is_zero(self):
        return self.compare(Fraction(0)) == 0

    def scale(self):
        if self.found is None:
            low, high = -2048, 1032
            while high - low > 1:
                middle = (low + high) // 2
                if self.compare(power_of_two(middle)) >= 0:
                    low = middle
                else:
                    high = middle
            self.found = low
        return self.found

    def floor(self, unit):
        low, high = 0, max(1, int(power_of_two(self.scale() + 1) / unit))
        while high - low > 1:
            middle = (low + high) // 2
            if self.compare(middle * unit) >= 0:
                low = middle
            else:
                high = middle
        return low


class HalfRoot(Compared):
    """The root of (m + a) / 2, where m is the root of square."""

    def __init__(self, sign, square, a):
        super().__init__(sign)
        self.square, self.a = square, a

    def compare(self, fraction):
        rest = 2 * fraction * fraction - self.a
        if rest < 0:
            return 1
        return (self.square > rest * rest) - (self.square < rest * rest)


class Root(Compared):
    """The root of square."""

    def __init__(self, square):
        super().__init__(0)
        self.square = square

    def compare(self, fraction):
        return (self.square > fraction * fraction) - (self.square < fraction * fraction)


def to_multiple(r, exact, unit):
    n = exact.floor(unit)
    if exact.compare(n * unit) == 0:
        return n * unit
    if r == DOWN:
        return (n + exact.sign) * unit
    if r == UPWARD:
        return (n + 1 - exact.sign) * unit
    if r == CUT:
        return n * unit
    side = exact.compare((n + Fraction(1, 2)) * unit)
    return (n + 1 if side > 0 or (side == 0 and n % 2) else n) * unit


def rounded(fmt, r, exact):
    """Bits and flags, up among them, of an exact value that isn't 0."""
    y = to_multiple(r, exact, power_of_two(exact.scale() - fmt.p + 1))
    sign = exact.sign
    if y >= power_of_two(fmt.emax + 1):
        if r == CUT or (r == DOWN and sign == 0) or (r == UPWARD and sign == 1):
            return fmt.largest(sign), OVERFLOW | INEXACT
        return fmt.inf(sign), OVERFLOW | INEXACT | UP
    flags = INEXACT
    if y < power_of_two(fmt.emin):
        y = to_multiple(r, exact, power_of_two(fmt.emin - fmt.p + 1))
        flags = UNDERFLOW | INEXACT
    side = exact.compare(y)
    return fmt.bits(y, sign), 0 if side == 0 else flags | (UP if side < 0 else 0)


def zero_of(fmt, r, signs):
    if len(set(signs)) == 1:
        return fmt.zero(signs[0])
    return fmt.zero(1 if r == DOWN else 0)


def what_comes(fmt, several):
    none = [bits for bits in several if fmt.no_number(bits)]
    return fmt.made_quiet(none[0]), INVALID if any(fmt.kind(bits) == "loud" for bits in none) else 0


def came(fmt, several):
    return SMALL if any(fmt.kind(bits) == "small" for bits in several) else 0


def step(fmt, operation, r, a, b):
    if fmt.no_number(a) or fmt.no_number(b):
        return what_comes(fmt, (a, b))
    kinds = fmt.kind(a), fmt.kind(b)
    small = came(fmt, (a, b))
    if operation == MUL:
        sign = fmt.sign(a) ^ fmt.sign(b)
        if set(kinds) == {"zero", "infinite"}:
            return fmt.empty(), INVALID
        if "infinite" in kinds:
            return fmt.inf(sign), small
        if "zero" in kinds:
            return fmt.zero(sign), small
        value = fmt.value(a) * fmt.value(b)
    else:
        b = fmt.turned(b) if operation == SUB else b
        if kinds == ("infinite", "infinite"):
            return (a, 0) if a == b else (fmt.empty(), INVALID)
        if "infinite" in kinds:
            return (a if kinds[0] == "infinite" else b), small
        value = fmt.value(a) + fmt.value(b)
        if value == 0:
            return zero_of(fmt, r, (fmt.sign(a), fmt.sign(b))), small
    bits, flags = rounded(fmt, r, Rational(value))
    return bits, (flags & ~UP) | small


def is_finite(fmt, x):
    return all(fmt.finite(bits) for bits in x)


def is_infinite(fmt, x):
    return any(fmt.kind(bits) == "infinite" for bits in x)


def is_none(fmt, x):
    return not is_infinite(fmt, x) and any(fmt.no_number(bits) for bits in x)


def is_zero(fmt, x):
    return all(fmt.kind(bits) == "zero" for bits in x)


def part_of(fmt, r, products, divisor=1):
    """A part that's a sum of signed products of two floats, by a divisor; rounded once."""
    value, signs = Fraction(0), []
    for minus, a, b in products:
        value += (-1 if minus else 1) * fmt.value(a) * fmt.value(b)
        signs.append(minus ^ fmt.sign(a) ^ fmt.sign(b))
    if value == 0:
        return zero_of(fmt, r, signs), 0
    return rounded(fmt, r, Rational(value / divisor))


def ones(fmt, x):
    return [fmt.one(fmt.sign(v)) if fmt.kind(v) == "infinite" else fmt.zero(fmt.sign(v)) for v in x]


def zeros_for_none(fmt, x):
    return [fmt.zero(fmt.sign(v)) if fmt.no_number(v) else v for v in x]


def mul(fmt, r, x, y):
    (a, b), (c, d) = x, y
    if is_finite(fmt, x) and is_finite(fmt, y):
        re, re_flags = part_of(fmt, r, [(0, a, c), (1, b, d)])
        im, im_flags = part_of(fmt, r, [(0, a, d), (0, b, c)])
        return [re, im, re_flags | im_flags | came(fmt, (a, b, c, d))]
    do = functools.partial(step, fmt)
    p, q, s, t = do(MUL, r, a, c), do(MUL, r, b, d), do(MUL, r, a, d), do(MUL, r, b, c)
    re, im = do(SUB, r, p[0], q[0]), do(ADD, r, s[0], t[0])
    flags = p[1] | q[1] | s[1] | t[1] | re[1] | im[1]
    if not (fmt.no_number(re[0]) and fmt.no_number(im[0])):
        return [re[0], im[0], flags]
    x_is, y_is = is_infinite(fmt, x), is_infinite(fmt, y)
    if not (x_is or y_is or is_infinite(fmt, (p[0], q[0], s[0], t[0]))):
        return [re[0], im[0], flags]
    if x_is:
        x, y = ones(fmt, x), zeros_for_none(fmt, y)
    if y_is:
        x, y = zeros_for_none(fmt, x), ones(fmt, y)
    if not x_is and not y_is:
        x, y = zeros_for_none(fmt, x), zeros_for_none(fmt, y)
    (a, b), (c, d) = x, y
    inner_re = do(SUB, r, do(MUL, r, a, c)[0], do(MUL, r, b, d)[0])[0]
    inner_im = do(ADD, r, do(MUL, r, a, d)[0], do(MUL, r, b, c)[0])[0]
    return [do(MUL, r, fmt.inf(0), inner_re)[0], do(MUL, r, fmt.inf(0), inner_im)[0], flags & ~INVALID]


def numerators(fmt, r, factor, x, y):
    (a, b), (c, d) = x, y
    do = functools.partial(step, fmt)
    re = do(ADD, r, do(MUL, r, a, c)[0], do(MUL, r, b, d)[0])[0]
    im = do(SUB, r, do(MUL, r, b, c)[0], do(MUL, r, a, d)[0])[0]
    return [do(MUL, r, factor, re)[0], do(MUL, r, factor, im)[0], 0]


def div(fmt, r, x, y):
    (a, b), (c, d) = x, y
    if is_none(fmt, x) or is_none(fmt, y):
        bits, flags = what_comes(fmt, (a, b, c, d))
        return [bits, bits, flags]
    if is_zero(fmt, y) and is_zero(fmt, x):
        return [fmt.empty(), fmt.empty(), INVALID]
    if is_zero(fmt, y):
        edge = fmt.inf(fmt.sign(c))
        flag = BY_ZERO if is_finite(fmt, x) else 0
        return [step(fmt, MUL, r, edge, a)[0], step(fmt, MUL, r, edge, b)[0], flag]
    if is_finite(fmt, x) and is_finite(fmt, y):
        norm = norm_of(fmt, y)
        re, re_flags = part_of(fmt, r, [(0, a, c), (0, b, d)], norm)
        im, im_flags = part_of(fmt, r, [(0, b, c), (1, a, d)], norm)
        return [re, im, re_flags | im_flags | came(fmt, (a, b, c, d))]
    if is_infinite(fmt, x) and is_infinite(fmt, y):
        return [fmt.empty(), fmt.empty(), INVALID]
    if is_infinite(fmt, x):
        return numerators(fmt, r, fmt.inf(0), ones(fmt, x), y)
    return numerators(fmt, r, fmt.zero(0), x, ones(fmt, y))


def root_parts(fmt, x):
    """The exact parts of a finite number's root."""
    a, b = fmt.value(x[0]), fmt.value(x[1])
    return HalfRoot(0, a * a + b * b, a), HalfRoot(fmt.sign(x[1]), a * a + b * b, -a)


def sqrt(fmt, r, x):
    a, b = x
    if is_zero(fmt, x):
        return [fmt.zero(0), b, 0]
    if is_finite(fmt, x):
        answer, flags = [], came(fmt, x)
        for exact in root_parts(fmt, x):
            if exact.is_zero():
                answer.append(fmt.zero(exact.sign))
            else:
                bits, more = rounded(fmt, r, exact)
                answer.append(bits)
                flags |= more
        return answer + [flags]
    loud = INVALID if "loud" in (fmt.kind(a), fmt.kind(b)) else 0
    if fmt.kind(b) == "infinite":
        return [fmt.inf(0), b, loud]
    if a == fmt.inf(0):
        return [a, fmt.made_quiet(b) if fmt.no_number(b) else fmt.zero(fmt.sign(b)), loud]
    if a == fmt.inf(1):
        return [fmt.made_quiet(b) if fmt.no_number(b) else fmt.zero(0), fmt.inf(fmt.sign(b)), loud]
    bits, flags = what_comes(fmt, x)
    return [bits, bits, flags]


def two(f, operation, r, x, y):
    fmt = BY_NUMBER[f]
    if operation == MUL:
        return [0] + mul(fmt, r, x, y)
    if operation == DIV:
        return [0] + div(fmt, r, x, y)
    re, re_flags = step(fmt, operation, r, x[0], y[0])
    im, im_flags = step(fmt, operation, r, x[1], y[1])
    return [0, re, im, re_flags | im_flags]


def one(f, operation, r, x):
    fmt = BY_NUMBER[f]
    a, b = x
    if operation == SQRT:
        return [0] + sqrt(fmt, r, x)
    if operation == CONJ:
        return [0, a, fmt.turned(b), 0]
    if operation == PROJ:
        return [0, fmt.inf(0), fmt.zero(fmt.sign(b)), 0] if is_infinite(fmt, x) else [0, a, b, 0]
    if operation == TIMES_I:
        return [0, fmt.turned(b), a, 0]
    return [0, b, fmt.turned(a), 0]


def norm_of(fmt, x):
    """The exact a a + b b of a finite number."""
    return fmt.value(x[0]) ** 2 + fmt.value(x[1]) ** 2


def real(f, operation, r, x):
    fmt = BY_NUMBER[f]
    if is_infinite(fmt, x):
        return [0, fmt.inf(0), 0]
    if is_none(fmt, x):
        return [0, *what_comes(fmt, x)]
    square = norm_of(fmt, x)
    if square == 0:
        return [0, fmt.zero(0), 0]
    bits, flags = rounded(fmt, r, Root(square) if operation == ABS else Rational(square))
    return [0, bits, flags | came(fmt, x)]


def fused(f, r, x, y, z):
    fmt = BY_NUMBER[f]
    (a, b), (c, d), (e, g) = x, y, z
    if is_finite(fmt, x) and is_finite(fmt, y) and is_finite(fmt, z):
        re, re_flags = part_of(fmt, r, [(0, a, c), (1, b, d), (0, e, fmt.one(0))])
        im, im_flags = part_of(fmt, r, [(0, a, d), (0, b, c), (0, g, fmt.one(0))])
        return [0, re, im, re_flags | im_flags | came(fmt, (a, b, c, d, e, g))]
    between = two(f, MUL, r, x, y)
    answer = two(f, ADD, r, between[1:3], z)
    return answer[:3] + [between[3] | answer[3]]


def dot(f, r, conj, z, pairs):
    fmt = BY_NUMBER[f]
    rows = [list(pairs[k:k + 4]) for k in range(0, len(pairs), 4)]
    if conj:
        rows = [[a, fmt.turned(b), c, d] for a, b, c, d in rows]
    if not rows:
        return [0, *z, came(fmt, z) if is_finite(fmt, z) else 0]
    if is_finite(fmt, z) and is_finite(fmt, pairs):
        re_products, im_products = [(0, z[0], fmt.one(0))], [(0, z[1], fmt.one(0))]
        for a, b, c, d in rows:
            re_products += [(0, a, c), (1, b, d)]
            im_products += [(0, a, d), (0, b, c)]
        (re, re_flags), (im, im_flags) = part_of(fmt, r, re_products), part_of(fmt, r, im_products)
        return [0, re, im, re_flags | im_flags | came(fmt, list(z) + list(pairs))]
    flags = 0
    for row in rows:
        told = fused(f, r, row[:2], row[2:], z)
        z, flags = told[1:3], flags | told[3]
    return [0, *z, flags]


def same(f, x, y):
    fmt = BY_NUMBER[f]
    loud = INVALID if "loud" in [fmt.kind(bits) for bits in x + y] else 0
    if any(fmt.no_number(bits) for bits in x + y):
        return [0, 0, loud]

    def order(bits):
        return (fmt.kind(bits) == "infinite") * (-1 if fmt.sign(bits) else 1), fmt.value(bits) * fmt.finite(bits)

    return [0, int([order(bits) for bits in x] == [order(bits) for bits in y]), 0]


def changed_part(fmt, target, r, bits):
    sign, exponent, fraction = fmt.fields(bits)
    kind = fmt.kind(bits)
    if kind == "zero":
        return target.zero(sign), 0
    if kind == "infinite":
        return target.inf(sign), 0
    if kind in ("quiet", "loud"):
        digits = "1" + format(fraction, f"0{fmt.fraction_bits}b")[1:]
        digits = digits.ljust(target.fraction_bits, "0")[:target.fraction_bits]
        return target.make(sign, target.all_ones, int(digits, 2)), INVALID if kind == "loud" else 0
    return rounded(target, r, Rational(fmt.value(bits)))


def change(f, g, r, x):
    fmt = BY_NUMBER[f]
    (re, re_flags), (im, im_flags) = (changed_part(fmt, BY_NUMBER[g], r, bits) for bits in x)
    return [0, re, im, re_flags | im_flags | came(fmt, x)]


def kind(f, x):
    fmt = BY_NUMBER[f]
    if is_infinite(fmt, x):
        return [0, 2, 0]
    if is_none(fmt, x):
        return [0, 3, 0]
    return [0, 0 if is_zero(fmt, x) else 1, 0]


def power_of_ten(exponent):
    return Fraction(10 ** exponent) if exponent >= 0 else Fraction(1, 10 ** -exponent)


def what_reads_as(fmt, bits):
    """The values that near makes this float of, above 0: from, to, and whether these two are among them."""
    value, below = fmt.value(bits), fmt.value(bits - 1)
    above = power_of_two(fmt.emax + 1) if bits == fmt.largest(0) else fmt.value(bits + 1)
    return (value + below) / 2, (value + above) / 2, bits % 2 == 0


def tens_scale(size):
    """e with 10^e at most the size and the size below 10^(e + 1)."""
    e = len(str(size.numerator)) - len(str(size.denominator))
    return e if power_of_ten(e) <= size else e - 1


def shortest(fmt, bits):
    """All digits and exponents of the fewest digits that read as a float above 0, nearest first."""
    low, high, closed = what_reads_as(fmt, bits)
    value, fitting, how_many = fmt.value(bits), [], 0
    while not fitting:
        how_many += 1
        for exponent in range(tens_scale(low) - how_many + 1, tens_scale(high) - how_many + 2):
            unit = power_of_ten(exponent)
            first = max(-(-low // unit), 10 ** (how_many - 1))
            for number in range(first, min(high // unit, 10 ** how_many - 1) + 1):
                inside = low < number * unit < high or (closed and number * unit in (low, high))
                if inside and (how_many == 1 or number % 10):
                    fitting.append((abs(number * unit - value), number % 2, str(number), exponent))
    return sorted(fitting)


def short_text(fmt, bits):
    if fmt.kind(bits) == "zero":
        return "0e0"
    distance, odd, digits, exponent = shortest(fmt, bits)[0]
    return digits[0] + ("." + digits[1:] if digits[1:] else "") + "e" + str(exponent + len(digits) - 1)


def text_of_sixteens(fmt, bits):
    if fmt.kind(bits) == "zero":
        return "0x0p0"
    size = fmt.value(bits)
    e = scale(size)
    digits, rest = "", size / power_of_two(e) - 1
    while rest:
        digit = int(16 * rest)
        digits, rest = digits + format(digit, "x"), 16 * rest - digit
    return "0x1" + ("." + digits if digits else "") + "p" + str(e)


def float_text(fmt, form, bits):
    """Without its sign."""
    kind_of = fmt.kind(bits)
    if kind_of in ("quiet", "loud"):
        return kind_of
    if kind_of == "infinite":
        return "inf"
    sizes = bits & ~fmt.zero(1)
    return text_of_sixteens(fmt, sizes) if form else short_text(fmt, sizes)


def text(f, form, x):
    fmt = BY_NUMBER[f]
    signs = "-" if fmt.sign(x[0]) else "", "-" if fmt.sign(x[1]) else "+"
    both = signs[0] + float_text(fmt, form, x[0]) + signs[1] + float_text(fmt, form, x[1]) + "i"
    return [0, *both.encode()]


TENS = rb"([0-9]+)(?:[.]([0-9]+))?(?:e(-?[0-9]{1,5}))?"
SIXTEENS = rb"0x([0-9a-f]+)(?:[.]([0-9a-f]+))?(?:p(-?[0-9]{1,5}))?"
FLOAT = rb"inf|" + SIXTEENS + rb"|" + TENS
NUMBER = patterns.compile(rb"(-?)(" + FLOAT + rb")([+-])(" + FLOAT + rb")i")
# Behind whatever some text begins with, one of these makes it whole.
ENDINGS = (b"", b"i", b"fi", b"nfi", b"0i", b"+0i", b"f+0i", b"nf+0i", b"0+0i")


def is_begun(octets):
    return any(NUMBER.fullmatch(octets + ending) for ending in ENDINGS)


def fault(octets):
    return max(n for n in range(len(octets) + 1) if is_begun(octets[:n]))


def read_float(fmt, r, sign, octets):
    if octets == b"inf":
        return fmt.inf(sign), 0
    in_tens = patterns.fullmatch(TENS, octets)
    before, behind, exponent = (in_tens or patterns.fullmatch(SIXTEENS, octets)).groups()
    number = int(before + (behind or b""), 10 if in_tens else 16)
    places = len(behind or b"")
    if in_tens:
        value = number * power_of_ten(int(exponent or 0) - places)
    else:
        value = number * power_of_two(int(exponent or 0) - 4 * places)
    if value == 0:
        return fmt.zero(sign), 0
    return rounded(fmt, r, Rational(-value if sign else value))


def read(f, r, octets):
    fmt, octets = BY_NUMBER[f], bytes(octets)
    found = NUMBER.fullmatch(octets)
    if not found:
        return [-2, fault(octets)]
    re, re_flags = read_float(fmt, r, int(found[1] == b"-"), found[2])
    im, im_flags = read_float(fmt, r, int(found[9] == b"-"), found[10])
    return [0, re, im, re_flags | im_flags]


def kinds_of_floats(fmt):
    """One or two floats of every kind, both signs among them."""
    return (
        fmt.zero(0), fmt.zero(1),
        fmt.make(0, 0, 1), fmt.make(1, 0, (1 << fmt.fraction_bits) - 1),
        fmt.one(0), fmt.largest(1),
        fmt.inf(0), fmt.inf(1),
        fmt.quiet(1, 5), fmt.loud(0, 3), fmt.loud(1, 1),
    )


def random_finite(fmt, source, spread=None):
    """A finite float; with a spread its exponent lies about 1's."""
    sign = source.getrandbits(1)
    if spread is None:
        exponent = source.randrange(fmt.all_ones)
    else:
        exponent = fmt.emax + source.randint(-spread, spread)
    # Few digits now and then, so that exact results and ties come up too.
    fraction = source.getrandbits(fmt.fraction_bits)
    if source.randrange(3) == 0:
        cut = source.randrange(fmt.fraction_bits)
        fraction = fraction >> cut << cut
    return fmt.make(sign, max(0, min(exponent, fmt.all_ones - 1)), fraction)
