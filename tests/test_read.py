"""read: every text of a finite or infinite number, rounded once; the fault's place of others."""

import itertools
import random
import unittest
from fractions import Fraction

from oncerounded.complexes import read
from tests import oracle
from tests.oracle import BY_NUMBER, CUT, DOWN, FORMATS, NEAR, ROUNDINGS, UPWARD, power_of_two, random_finite


def taken(f, r, marks):
    return read(f, r, list(marks.encode("latin-1")))


class EveryFormat(unittest.TestCase):
    def each(self):
        for f in FORMATS:
            for r in ROUNDINGS:
                yield f, BY_NUMBER[f], r

    def check(self, f, marks, expected):
        """expected: for each rounding the float and the flags of a text without a sign; in each part, both signs."""
        fmt = BY_NUMBER[f]
        mirrored = {NEAR: NEAR, DOWN: UPWARD, UPWARD: DOWN, CUT: CUT}
        for r in ROUNDINGS:
            bits, flags = expected[r]
            minus, minus_flags = expected[mirrored[r]]
            with self.subTest(f=f, r=r, marks=marks):
                self.assertEqual(taken(f, r, marks + "+1i"), [0, bits, fmt.one(0), flags])
                self.assertEqual(taken(f, r, "1+" + marks + "i"), [0, fmt.one(0), bits, flags])
                self.assertEqual(taken(f, r, "-" + marks + "-1i"), [0, fmt.turned(minus), fmt.one(1), minus_flags])
                self.assertEqual(taken(f, r, "1-" + marks + "i"), [0, fmt.one(0), fmt.turned(minus), minus_flags])

    def check_exact(self, f, marks, value):
        bits = BY_NUMBER[f].bits(Fraction(value))
        self.check(f, marks, {r: (bits, 0) for r in ROUNDINGS})


class Examples(EveryFormat):
    def test_the_documents(self):
        for f, fmt, r in self.each():
            self.assertEqual(taken(f, r, "1+2i"), [0, fmt.bits(1), fmt.bits(2), 0])
            self.assertEqual(taken(f, r, "-0e0-1.5e0i"), [0, fmt.zero(1), fmt.bits(Fraction(-3, 2)), 0])
            self.assertEqual(taken(f, r, "inf+0e0i"), [0, fmt.inf(0), 0, 0])
            self.assertEqual(taken(f, r, "1.5e0-2e0i"), [0, fmt.bits(Fraction(3, 2)), fmt.bits(-2), 0])

    def test_bits_written_out(self):
        self.assertEqual(read(1, 0, [49, 46, 53, 101, 48, 45, 50, 101, 48, 105]), [0, 0x3FC00000, 0xC0000000, 0])
        self.assertEqual(taken(1, NEAR, "0.1-0.2i"), [0, 0x3DCCCCCD, 0xBE4CCCCD, 160])
        self.assertEqual(taken(2, NEAR, "0.1-0.3i"), [0, 0x3FB999999999999A, 0xBFD3333333333333, 160])


class Forms(EveryFormat):
    def test_of_tens(self):
        for f in FORMATS:
            for marks, value in (("0012", 12), ("12.50", "25/2"), ("00.5", "1/2"), ("1e1", 10), ("1e01", 10),
                                 ("1e00001", 10), ("5e-1", "1/2"), ("125e-3", "1/8"), ("125e-00003", "1/8"),
                                 ("0.00125e3", "5/4"), ("1200e-2", 12), ("1e-0", 1), ("1.0e0", 1), ("10", 10),
                                 ("0.5e1", 5), ("7e0", 7), ("0.25", "1/4"), ("1e3", 1000), ("2e00000", 2)):
                self.check_exact(f, marks, value)

    def test_of_sixteens(self):
        for f in FORMATS:
            for marks, value in (("0x1", 1), ("0xff", 255), ("0x1e", 30), ("0x0001", 1), ("0x1.8", "3/2"),
                                 ("0x1.80", "3/2"), ("0x1p3", 8), ("0x1p-3", "1/8"), ("0x0.08p5", 1), ("0xap0", 10),
                                 ("0x10p-4", 1), ("0x1p00003", 8), ("0x1.8p1", 3), ("0xabc", 2748),
                                 ("0x0.001p12", 1), ("0x1p-00002", "1/4"), ("0xfp-0", 15)):
                self.check_exact(f, marks, value)

    def test_e_is_a_digit_of_sixteen(self):
        for f, fmt, r in self.each():
            self.assertEqual(taken(f, r, "0x1e-5i"), [0, fmt.bits(30), fmt.bits(-5), 0])
            self.assertEqual(taken(f, r, "1e1-0x1e1i"), [0, fmt.bits(10), fmt.bits(-481), 0])

    def test_mixed(self):
        for f, fmt, r in self.each():
            self.assertEqual(taken(f, r, "0x1.8p1-1.5e1i"), [0, fmt.bits(3), fmt.bits(-15), 0])
            self.assertEqual(taken(f, r, "-12+0x1p-1i"), [0, fmt.bits(-12), fmt.bits(Fraction(1, 2)), 0])
            self.assertEqual(taken(f, r, "0x1p2-0x1p-2i"), [0, fmt.bits(4), fmt.bits(Fraction(-1, 4)), 0])
            self.assertEqual(taken(f, r, "1e-1-infi")[2], fmt.inf(1))

    def test_infinite(self):
        for f, fmt, r in self.each():
            for s, t in itertools.product((0, 1), repeat=2):
                self.assertEqual(taken(f, r, ("", "-")[s] + "inf" + "+-"[t] + "infi"), [0, fmt.inf(s), fmt.inf(t), 0])
                self.assertEqual(taken(f, r, ("", "-")[s] + "inf" + "+-"[t] + "2i"),
                                 [0, fmt.inf(s), fmt.bits(-2 if t else 2), 0])
                self.assertEqual(taken(f, r, ("", "-")[s] + "2" + "+-"[t] + "infi"),
                                 [0, fmt.bits(-2 if s else 2), fmt.inf(t), 0])

    def test_zeros_keep_their_sign(self):
        zeros = ("0", "00", "0.0", "0e0", "0e99999", "0e-99999", "0.000e5", "0x0", "0x0p0", "0x0.0p99999", "0x00p-99999")
        for f, fmt, r in self.each():
            for s, t in itertools.product((0, 1), repeat=2):
                for marks, other in zip(zeros, zeros[1:] + zeros[:1]):
                    self.assertEqual(taken(f, r, ("", "-")[s] + marks + "+-"[t] + other + "i"),
                                     [0, fmt.zero(s), fmt.zero(t), 0])

    def test_a_small_one_is_none_that_came_in(self):
        for f, marks in ((0, "0x1p-24"), (1, "0x1p-149"), (2, "0x1p-1074")):
            self.check(f, marks, {r: (1, 0) for r in ROUNDINGS})
            self.check(f, marks.replace("x1", "x3"), {r: (3, 0) for r in ROUNDINGS})


class Edges(EveryFormat):
    def test_ties(self):
        for f in FORMATS:
            fmt = BY_NUMBER[f]
            whole = 1 << fmt.p
            for odd in (whole + 1, whole + 3):
                low, over = (fmt.bits(odd - 1), 32), (fmt.bits(odd + 1), 160)
                near = low if (odd - 1) % 4 == 0 else over
                expected = {NEAR: near, DOWN: low, UPWARD: over, CUT: low}
                for marks in (str(odd), str(odd) + ".0", str(odd) + "0e-1", hex(odd), hex(odd) + ".00p0"):
                    self.check(f, marks, expected)
                # The least more or less decides.
                for beside, near in ((str(odd) + ".00000000000000000000000000000001", over),
                                     (str(odd - 1) + ".99999999999999999999999999999999", low),
                                     (hex(odd) + ".0000000000000000000000001", over),
                                     (hex(odd - 1) + ".fffffffffffffffffffffffff", low)):
                    self.check(f, beside, {NEAR: near, DOWN: low, UPWARD: over, CUT: low})

    def test_overflow(self):
        for f in FORMATS:
            fmt = BY_NUMBER[f]
            inf, largest, inexact = (fmt.inf(0), 168), (fmt.largest(0), 40), (fmt.largest(0), 32)
            over = {NEAR: inf, DOWN: largest, UPWARD: inf, CUT: largest}
            top = 1 << (fmt.emax + 1)
            for marks in (("65536", "7e4") if f == 0 else ("1e39",) if f == 1 else ("1e309", "1.8e308")):
                self.check(f, marks, over)
            if f < 2:
                self.check(f, str(top), over)
            for marks in ("1e400", "1e401", "1e99999", "0x1p" + str(fmt.emax + 1), "0x1p99999", "9" * 100 + "e99999"):
                self.check(f, marks, over)
            half = "0x1." + "f" * 13 + "8" if f == 2 else hex(top - (1 << (fmt.emax - fmt.p)))
            half += "p" + str(fmt.emax) if f == 2 else ""
            self.check(f, half, {NEAR: inf, DOWN: inexact, UPWARD: inf, CUT: inexact})

    def test_just_above_the_largest(self):
        inf, largest = (0x7C00, 168), (0x7BFF, 32)
        self.check(0, "65504", {r: (0x7BFF, 0) for r in ROUNDINGS})
        for marks in ("65504.0001", "65519.999999", "6.5519e4"):
            self.check(0, marks, {NEAR: largest, DOWN: largest, UPWARD: inf, CUT: largest})
        for marks in ("65520", "65535.999999"):
            self.check(0, marks, {NEAR: inf, DOWN: largest, UPWARD: inf, CUT: largest})
        inf, largest = (0x7FEFFFFFFFFFFFFF + 1, 168), (0x7FEFFFFFFFFFFFFF, 32)
        self.check(2, "1.7976931348623158e308", {NEAR: largest, DOWN: largest, UPWARD: inf, CUT: largest})

    def test_underflow(self):
        for f, smallest, half, tiny in ((0, -24, "0x1p-25", "1e-9"), (1, -149, "0x1p-150", "1e-46"),
                                        (2, -1074, "0x1p-1075", "1e-324")):
            none, first = (0, 48), (1, 176)
            under = {NEAR: none, DOWN: none, UPWARD: first, CUT: none}
            for marks in (half, tiny, "1e-400", "1e-700", "1e-701", "1e-99999", "0x1p-99999", "0x0.01p-99999",
                          "9" * 240 + "e-99999", "0." + "0" * 200 + "1e-500"):
                self.check(f, marks, under)
            above = {NEAR: first, DOWN: none, UPWARD: first, CUT: none}
            self.check(f, half.replace("x1", "x1.0000000000000001"), above)
            self.check(f, "0x1.8p" + str(smallest), {NEAR: (2, 176), DOWN: (1, 48), UPWARD: (2, 176), CUT: (1, 48)})
            self.check(f, "0x2.8p" + str(smallest), {NEAR: (2, 48), DOWN: (2, 48), UPWARD: (3, 176), CUT: (2, 48)})

    def test_about_the_lowest_normal(self):
        for f in FORMATS:
            fmt = BY_NUMBER[f]
            normal, under = fmt.make(0, 1, 0), (fmt.make(0, 1, 0) - 1, 48)
            # 2^emin less a quarter of the smallest, and less three eighths of it.
            for quarters, near in ((4 * (1 << (fmt.p - 1)) * 2 - 2, 160), (4 * (1 << (fmt.p - 1)) * 2 - 3, 176)):
                marks = hex(quarters) + "p" + str(fmt.emin - fmt.p - 2)
                self.check(f, marks, {NEAR: (normal, near), DOWN: under, UPWARD: (normal, 160), CUT: under})

    def test_flags_of_both_parts(self):
        for f in FORMATS:
            fmt = BY_NUMBER[f]
            for r, re, im, flags in ((NEAR, fmt.inf(0), fmt.zero(1), 184), (CUT, fmt.largest(0), fmt.zero(1), 56),
                                     (DOWN, fmt.largest(0), fmt.make(1, 0, 1), 184),
                                     (UPWARD, fmt.inf(0), fmt.zero(1), 184)):
                self.assertEqual(taken(f, r, "1e99999-1e-99999i"), [0, re, im, flags])
                self.assertEqual(taken(f, r, "-inf+1e-99999i")[3], 176 if r == UPWARD else 48)

    def test_exponents_of_one_to_five_digits(self):
        for f in FORMATS:
            for zeros in range(5):
                self.check_exact(f, "3e" + "0" * zeros + "2", 300)
                self.check_exact(f, "5e-" + "0" * zeros + "1", "1/2")
                self.check_exact(f, "0x3p" + "0" * zeros + "2", 12)
                self.check_exact(f, "0x3p-" + "0" * zeros + "2", "3/4")
            # Great exponents that the digits make up for.
            self.check_exact(f, "0." + "0" * 199 + "1e200", 1)
            self.check_exact(f, "1" + "0" * 200 + "e-200", 1)
            self.check_exact(f, "0x0." + "0" * 199 + "1p800", 1)
            self.check_exact(f, "0x1" + "0" * 200 + "p-800", 1)


class Long(EveryFormat):
    def test_of_256_bytes(self):
        for f, fmt, r in self.each():
            marks = "1+" + "0" * 252 + "2i"
            self.assertEqual(len(marks), 256)
            self.assertEqual(taken(f, r, marks), [0, fmt.bits(1), fmt.bits(2), 0])
            self.assertEqual(taken(f, r, "0" + marks), [-1])
            self.assertEqual(taken(f, r, "1" * 256), [-2, 256])
            self.assertEqual(taken(f, r, "1" * 255 + "x"), [-2, 255])
            self.assertEqual(taken(f, r, "1" * 257), [-1])
            self.assertEqual(taken(f, r, "x" * 300), [-1])

    def test_the_last_digit_decides(self):
        for f in FORMATS:
            fmt = BY_NUMBER[f]
            odd = (1 << fmt.p) + 1
            low, over = fmt.bits(odd - 1), fmt.bits(odd + 1)
            marks = str(odd) + "." + "0" * 300
            tie, above = marks[:252] + "0+0i", marks[:252] + "1+0i"
            self.assertEqual(len(above), 256)
            self.assertEqual([taken(f, r, above)[1] for r in ROUNDINGS], [over, low, over, low])
            self.assertEqual([taken(f, r, tie)[1] for r in ROUNDINGS], [low, low, over, low])

    def test_of_many_digits_and_no_needless_ones(self):
        for f, fmt, r in self.each():
            for marks in ("9" * 253 + "+0i", "0." + "9" * 251 + "+0i", "0x" + "f" * 251 + "+0i",
                          "0x0." + "7" * 240 + "p-9000+0i", "1" * 120 + "e-100-" + "7" * 120 + "e9i"):
                self.assertEqual(taken(f, r, marks), oracle.read(f, r, marks.encode()))


class Faults(EveryFormat):
    def check_fault(self, marks, place):
        for f, fmt, r in self.each():
            self.assertEqual(taken(f, r, marks), [-2, place], marks)

    def test_written_out(self):
        for marks, place in (
                ("", 0), ("-", 1), ("+", 0), ("+1+2i", 0), ("--1+2i", 1), ("-+1+2i", 1), (".", 0), (".5+1i", 0),
                ("-.5+1i", 1), ("1.", 2), ("1.+2i", 2), ("1.e5+2i", 2), ("1..5", 2), ("1.5.2+1i", 3), ("e5", 0),
                ("1e", 2), ("1e+5+2i", 2), ("1e-", 3), ("1e--5", 3), ("1e.5", 2), ("1e5.5+1i", 3), ("1e5e5", 3),
                ("1e123456+1i", 7), ("1e000001+1i", 7), ("1e-123456+1i", 8), ("1", 1), ("1+", 2), ("1-", 2),
                ("1+2", 3), ("1+2+3i", 3), ("1i", 1), ("2i", 1), ("1+2j", 3), ("1+2I", 3), ("1++2i", 2), ("1+-2i", 2),
                ("1-+2i", 2), ("1--2i", 2), ("1+2ii", 4), ("1+2i ", 4), ("1+2i\n", 4), (" 1+2i", 0), ("1 +2i", 1),
                ("1+ 2i", 2), ("1+2 i", 3), ("1+2e5", 5), ("1+2e", 4), ("1+2.", 4), ("1+.5i", 2), ("1+2.i", 4),
                ("1+2ei", 4), ("1+2e-i", 5), ("1+2e123456i", 9),
                ("0x", 2), ("0x+1i", 2), ("0xg+1i", 2), ("0x.8+1i", 2), ("0x1.", 4), ("0x1.+1i", 4), ("0x1p", 4),
                ("0x1p+1", 4), ("0x1p-", 5), ("0x1pa+1i", 4), ("0x1p123456+1i", 9), ("0x1p-123456+1i", 10),
                ("0x1P3+1i", 3), ("0X1+1i", 1), ("0xF+1i", 2), ("0xfF+1i", 3), ("00x1+1i", 2), ("1x1+1i", 1),
                ("10x1+1i", 2), ("0.0x1+1i", 3), ("0x0x1+1i", 3), ("0x1g+1i", 3), ("1+0x", 4), ("1+00x1i", 4),
                ("1+0xi", 4), ("1+0x1", 5), ("1+0x1pi", 6), ("-0x", 3), ("-00x", 3), ("0x1p3.5+1i", 5),
                ("1p3+1i", 1), ("0x1e5p1e5+1i", 7), ("a+1i", 0), ("1a+1i", 1)):
            self.check_fault(marks, place)

    def test_infinite(self):
        for marks, place in (("i", 1), ("in", 2), ("inf", 3), ("infi", 3), ("inf+", 4), ("inf+i", 5), ("inf+in", 6),
                             ("inf+inf", 7), ("inf+infx", 7), ("inf+infii", 8), ("infinity", 3), ("+inf+1i", 0),
                             ("-i", 2), ("--inf", 1), ("Inf+1i", 0), ("iNf+1i", 1), ("inf0+1i", 3), ("inf.0+1i", 3),
                             ("infe5+1i", 3), ("1+i", 3), ("1-i", 3), ("1+ii", 3), ("1+ini", 4), ("0inf+1i", 1),
                             ("nan+1i", 0), ("1+nani", 2), ("quiet+1i", 0), ("1-loudi", 2), ("-inf--infi", 5)):
            self.check_fault(marks, place)

    def test_every_byte_in_every_place(self):
        for whole in (b"-12.5e-3+0x1.8p-2i", b"inf-0.5i", b"0x1f-infi"):
            for place, octet in itertools.product(range(len(whole)), range(256)):
                octets = bytearray(whole)
                octets[place] = octet
                self.assertEqual(read(1, NEAR, list(octets)), oracle.read(1, NEAR, octets), bytes(octets))

    def test_every_beginning(self):
        for whole in (b"-12.5e-35+0x1.8p-2i", b"inf-0.5i", b"0x1f.a-infi", b"00.25-1e99999i"):
            for f, fmt, r in self.each():
                for n in range(len(whole)):
                    self.assertEqual(read(f, r, list(whole[:n])), [-2, n])
                self.assertEqual(read(f, r, list(whole))[0], 0)

    def test_all_short_texts(self):
        for n in range(5):
            for octets in itertools.product(b"01.e-+infxap", repeat=n):
                self.assertEqual(read(0, NEAR, list(octets)), oracle.read(0, NEAR, bytes(octets)), bytes(octets))

    def test_texts_with_a_slip(self):
        source = random.Random(111)
        alphabet = b"0123456789abcdef.xpin+-"
        for times in range(6000):
            f, r = times % 3, source.randrange(4)
            octets = bytearray(some_text(source).encode())
            for slips in range(source.choice((1, 1, 2))):
                place = source.randrange(len(octets) + 1)
                what = source.randrange(3)
                if what == 0:
                    octets.insert(place, source.choice(alphabet))
                elif place < len(octets) and what == 1:
                    del octets[place]
                elif place < len(octets):
                    octets[place] = source.choice(alphabet)
            self.assertEqual(read(f, r, list(octets)), oracle.read(f, r, bytes(octets)), bytes(octets))


def some_digits(source, digits):
    return "".join(source.choice(digits) for place in range(source.choice((1, 1, 2, 3, 8, 20))))


def some_float(source):
    kind = source.randrange(9)
    if kind == 0:
        return "inf"
    in_tens = kind < 6
    digits = "0123456789" if in_tens else "0123456789abcdef"
    marks = ("" if in_tens else "0x") + some_digits(source, digits)
    if source.randrange(2):
        marks += "." + some_digits(source, digits)
    if source.randrange(2):
        most = source.choice((3, 20, 60, 330) if in_tens else (3, 30, 160, 1100))
        marks += ("e" if in_tens else "p") + str(source.randint(-most, most))
    return marks


def some_text(source):
    return source.choice(("", "-")) + some_float(source) + source.choice("+-") + some_float(source) + "i"


class AgainstFractions(EveryFormat):
    def test_of_many(self):
        source = random.Random(112)
        for times in range(2500):
            marks = some_text(source)
            for f, r in ((times % 3, times // 3 % 4), ((times + 1) % 3, times % 4)):
                self.assertEqual(taken(f, r, marks), oracle.read(f, r, marks.encode()), marks)

    def test_about_floats_and_their_middles(self):
        source = random.Random(113)
        for f, fmt, r in self.each():
            for times in range(60):
                bits = random_finite(fmt, source, 12) & ~fmt.zero(1)
                if bits in (fmt.largest(0), 0):
                    continue
                middle = (fmt.value(bits) + fmt.value(bits + 1)) / 2
                # Middles are whole multiples of 2^-80 here, so eighty places of tens tell them.
                whole = middle * 10 ** 80
                if whole.denominator == 1:
                    for number in (int(whole) - 1, int(whole), int(whole) + 1):
                        marks = str(number) + "e-80-" + str(number) + "e-80i"
                        self.assertEqual(taken(f, r, marks), oracle.read(f, r, marks.encode()))

    def test_far_exponents(self):
        for f, fmt, r in self.each():
            for marks in ("1e99999-1e-99999i", "0x1p99999-0x1p-99999i", "123.456e-99999+0.001e99999i"):
                self.assertEqual(taken(f, r, marks), oracle.read(f, r, marks.encode()))

    def test_of_doubles_agrees_with_python(self):
        source = random.Random(114)
        fmt = BY_NUMBER[2]
        for times in range(1000):
            digits = str(source.getrandbits(source.choice((20, 53, 64, 120))))
            exponent = str(source.randint(-340, 300))
            value = float(digits + "e" + exponent)
            expected = fmt.inf(0) if value == float("inf") else fmt.bits(Fraction(value))
            self.assertEqual(taken(2, NEAR, digits + "e" + exponent + "+0i")[1], expected)


if __name__ == "__main__":
    unittest.main()
