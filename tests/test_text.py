"""text: short texts and texts of sixteens, of every kind; Z6, texts read back."""

import itertools
import random
import unittest
from fractions import Fraction

from oncerounded.complexes import read, text
from tests import oracle
from tests.oracle import BY_NUMBER, FORMATS, NEAR, ROUNDINGS, kinds_of_floats, power_of_two, random_finite

SHORT, SIXTEENS = range(2)


def told(f, form, x):
    answer = text(f, form, x)
    if answer[0] != 0:
        raise ValueError("refused")
    return bytes(answer[1:]).decode("ascii")


class EveryFormat(unittest.TestCase):
    def each(self):
        return [(f, BY_NUMBER[f]) for f in FORMATS]

    def check_real(self, f, form, bits, expected):
        """The float in each part, with each sign."""
        fmt = BY_NUMBER[f]
        zero = "0x0p0" if form else "0e0"
        self.assertEqual(told(f, form, [bits, 0]), expected + "+" + zero + "i")
        self.assertEqual(told(f, form, [0, bits]), zero + "+" + expected + "i")
        minus = fmt.turned(bits)
        self.assertEqual(told(f, form, [minus, 0]), "-" + expected + "+" + zero + "i")
        self.assertEqual(told(f, form, [0, minus]), zero + "-" + expected + "i")


class Examples(EveryFormat):
    def test_the_documents(self):
        for f, fmt in self.each():
            x = [fmt.bits(Fraction(3, 2)), fmt.bits(-2)]
            self.assertEqual(told(f, SHORT, x), "1.5e0-2e0i")
            self.assertEqual(told(f, SIXTEENS, x), "0x1.8p0-0x1p1i")
        self.assertEqual(text(1, SHORT, [0x3FC00000, 0xC0000000]), [0, 49, 46, 53, 101, 48, 45, 50, 101, 48, 105])

    def test_the_floats_of_the_document(self):
        for f, fmt in self.each():
            self.check_real(f, SHORT, 0, "0e0")
            self.check_real(f, SIXTEENS, 0, "0x0p0")
            self.check_real(f, SHORT, fmt.bits(Fraction(3, 2)), "1.5e0")
        self.check_real(0, SHORT, 0x2E66, "1e-1")
        self.check_real(1, SHORT, 0x3DCCCCCD, "1e-1")
        self.check_real(2, SHORT, 0x3FB999999999999A, "1e-1")

    def test_a_minus_stands_once(self):
        for f, fmt in self.each():
            for form in (SHORT, SIXTEENS):
                for bits in (fmt.zero(1), fmt.one(1), fmt.inf(1), fmt.quiet(1), fmt.loud(1)):
                    marks = told(f, form, [fmt.one(0), bits])
                    self.assertEqual((marks.count("-"), marks.count("+")), (1, 0))


class Short(EveryFormat):
    def test_greatest_and_least(self):
        for f, largest, lowest, most_small, smallest in (
                (0, "6.55e4", "6.104e-5", "6.1e-5", "6e-8"),
                (1, "3.4028235e38", "1.1754944e-38", "1.1754942e-38", "1e-45"),
                (2, "1.7976931348623157e308", "2.2250738585072014e-308", "2.225073858507201e-308", "5e-324")):
            fmt = BY_NUMBER[f]
            normal = fmt.make(0, 1, 0)
            self.check_real(f, SHORT, fmt.largest(0), largest)
            self.check_real(f, SHORT, normal, lowest)
            self.check_real(f, SHORT, normal - 1, most_small)
            self.check_real(f, SHORT, 1, smallest)

    def test_of_one_digit_and_of_most(self):
        for f, fmt in self.each():
            for digit in range(1, 10):
                self.check_real(f, SHORT, fmt.bits(digit), str(digit) + "e0")
        self.check_real(0, SHORT, 0x3C01, "1.001e0")
        self.check_real(1, SHORT, 0x3F800001, "1.0000001e0")
        self.check_real(1, SHORT, 0x4B7FFFFF, "1.6777215e7")
        self.check_real(2, SHORT, 0x3FF0000000000001, "1.0000000000000002e0")
        self.check_real(2, SHORT, 0x3FD5555555555555, "3.333333333333333e-1")
        self.check_real(2, SHORT, 0x7FE1CCF385EBC8A0, "1e308")

    def test_the_most_digits_that_come_up(self):
        fmt = BY_NUMBER[0]
        lengths = {len(told(0, SHORT, [bits, 0]).split("e")[0].replace(".", "")) for bits in range(fmt.inf(0))}
        self.assertEqual(lengths, {1, 2, 3, 4, 5})
        self.assertEqual(told(2, SHORT, [0x4340000000000001, 0]), "9.007199254740994e15+0e0i")
        self.assertEqual(told(2, SHORT, [0x3FB99999999999A0, 0]), "1.0000000000000009e-1+0e0i")

    def test_powers_of_two(self):
        # Below a power of two floats lie closer than above it.
        for f, fmt in self.each():
            for e in range(fmt.emin - fmt.p + 1, fmt.emax + 1, 1 if f == 0 else 7):
                bits = fmt.bits(power_of_two(e))
                self.assertEqual(text(f, SHORT, [bits, fmt.turned(bits)]), oracle.text(f, SHORT, [bits, fmt.turned(bits)]))
        self.check_real(2, SHORT, 0x4340000000000000, "9.007199254740992e15")
        self.check_real(0, SHORT, 0x7800, "3.277e4")
        self.check_real(1, SHORT, 0x4C000000, "3.3554432e7")
        self.check_real(2, SHORT, 0x0060000000000000, "7.120236347223045e-307")

    def test_of_two_as_near_the_even_one(self):
        # A quarter and three quarters, where floats lie a quarter apart.
        for f, quarter, three in ((0, "2.562e2", "2.568e2"), (1, "2.0971522e6", "2.0971528e6"),
                                  (2, "1.1258999068426242e15", "1.1258999068426248e15")):
            fmt = BY_NUMBER[f]
            base = power_of_two(fmt.p - 3)
            self.check_real(f, SHORT, fmt.bits(base + Fraction(1, 4)), quarter)
            self.check_real(f, SHORT, fmt.bits(base + Fraction(3, 4)), three)

    def test_every_half(self):
        fmt = BY_NUMBER[0]
        ties = 0
        for bits in range(1, fmt.inf(0)):
            found = oracle.shortest(fmt, bits)
            ties += len(found) > 1 and found[0][0] == found[1][0]
            self.assertEqual(text(0, SHORT, [bits, 0]), oracle.text(0, SHORT, [bits, 0]))
        self.assertGreater(ties, 100)

    def test_of_others(self):
        source = random.Random(101)
        for f, fmt in self.each():
            for times in range(600):
                x = [random_finite(fmt, source, source.choice((None, None, 3, fmt.p))) for place in range(2)]
                self.assertEqual(text(f, SHORT, x), oracle.text(f, SHORT, x))
            for times in range(300):
                x = [fmt.make(source.getrandbits(1), source.randrange(2), source.getrandbits(fmt.fraction_bits)
                              >> source.randrange(fmt.fraction_bits)) for place in range(2)]
                self.assertEqual(text(f, SHORT, x), oracle.text(f, SHORT, x))

    def test_of_doubles_agrees_with_python(self):
        source = random.Random(102)
        fmt = BY_NUMBER[2]
        for times in range(1500):
            bits = random_finite(fmt, source, source.choice((None, 60))) & ~fmt.zero(1)
            if bits:
                shown = repr(float(fmt.value(bits)))
                mantissa, unused, power = shown.partition("e")
                whole, unused, behind = mantissa.partition(".")
                exponent = int(power or 0) - len(behind)
                digits = (whole + behind).lstrip("0")
                exponent += len(digits) - 1
                digits = digits.rstrip("0")
                expected = digits[0] + ("." + digits[1:] if digits[1:] else "") + "e" + str(exponent)
                self.assertEqual(told(2, SHORT, [bits, 0]), expected + "+0e0i")


class Sixteens(EveryFormat):
    def test_written_out(self):
        for f, fmt in self.each():
            for value, expected in ((1, "0x1p0"), (10, "0x1.4p3"), (Fraction(1, 2), "0x1p-1"), (255, "0x1.fep7"),
                                    (Fraction(3, 1024), "0x1.8p-9"), (2047, "0x1.ffcp10"), (1025, "0x1.004p10")):
                self.check_real(f, SIXTEENS, fmt.bits(value), expected)

    def test_greatest_and_least(self):
        for f, largest, lowest, most_small in (
                (0, "0x1.ffcp15", "0x1p-14", "0x1.ff8p-15"),
                (1, "0x1.fffffep127", "0x1p-126", "0x1.fffffcp-127"),
                (2, "0x1.fffffffffffffp1023", "0x1p-1022", "0x1.ffffffffffffep-1023")):
            fmt = BY_NUMBER[f]
            normal = fmt.make(0, 1, 0)
            self.check_real(f, SIXTEENS, fmt.largest(0), largest)
            self.check_real(f, SIXTEENS, normal, lowest)
            self.check_real(f, SIXTEENS, normal - 1, most_small)

    def test_of_small_ones_the_first_digit_is_1_too(self):
        for f, exponent in ((0, -24), (1, -149), (2, -1074)):
            for bits, digits, more in ((1, "1", 0), (2, "1", 1), (3, "1.8", 1), (5, "1.4", 2), (16, "1", 4),
                                       (17, "1.1", 4), (0x57, "1.5c", 6)):
                self.check_real(f, SIXTEENS, bits, "0x" + digits + "p" + str(exponent + more))

    def test_of_doubles_agrees_with_python(self):
        source = random.Random(103)
        fmt = BY_NUMBER[2]
        for times in range(500):
            bits = fmt.make(0, source.randrange(1, fmt.all_ones), source.getrandbits(fmt.fraction_bits))
            mantissa, unused, power = float(fmt.value(bits)).hex().partition("p")
            expected = mantissa.rstrip("0").rstrip(".") + "p" + str(int(power))
            self.assertEqual(told(2, SIXTEENS, [bits, 0]), expected + "+0x0p0i")

    def test_of_others(self):
        source = random.Random(104)
        for bits in range(BY_NUMBER[0].inf(0)):
            self.assertEqual(text(0, SIXTEENS, [bits, 0]), oracle.text(0, SIXTEENS, [bits, 0]))
        for f, fmt in self.each():
            for times in range(300):
                x = [random_finite(fmt, source) for place in range(2)]
                self.assertEqual(text(f, SIXTEENS, x), oracle.text(f, SIXTEENS, x))


class NotFinite(EveryFormat):
    def test_in_each_part(self):
        for f, fmt in self.each():
            for form in (SHORT, SIXTEENS):
                self.check_real(f, form, fmt.inf(0), "inf")
                for bits in (fmt.quiet(), fmt.quiet(0, 7)):
                    self.check_real(f, form, bits, "quiet")
                for bits in (fmt.loud(), fmt.loud(0, 3)):
                    self.check_real(f, form, bits, "loud")

    def test_beside_one_another(self):
        for f, fmt in self.each():
            for form in (SHORT, SIXTEENS):
                self.assertEqual(told(f, form, [fmt.quiet(1), fmt.quiet(0)]), "-quiet+quieti")
                self.assertEqual(told(f, form, [fmt.loud(0), fmt.inf(1)]), "loud-infi")
                self.assertEqual(told(f, form, [fmt.inf(1), fmt.loud(1)]), "-inf-loudi")

    def test_of_every_kind(self):
        for f, fmt in self.each():
            for x in itertools.product(kinds_of_floats(fmt), repeat=2):
                for form in (SHORT, SIXTEENS):
                    self.assertEqual(text(f, form, list(x)), oracle.text(f, form, list(x)))


class ReadBack(EveryFormat):
    def check_back(self, f, x):
        short, sixteens = text(f, SHORT, x)[1:], text(f, SIXTEENS, x)[1:]
        self.assertEqual(read(f, NEAR, short)[:3], [0] + x)
        for r in ROUNDINGS:
            self.assertEqual(read(f, r, sixteens), [0] + x + [0])

    def test_every_half(self):
        fmt = BY_NUMBER[0]
        for bits in range(fmt.inf(0) + 1):
            self.check_back(0, [bits, fmt.turned(bits)])

    def test_others(self):
        source = random.Random(105)
        for f, fmt in self.each():
            for times in range(400):
                self.check_back(f, [random_finite(fmt, source, source.choice((None, 5))) for place in range(2)])
            kinds = [bits for bits in kinds_of_floats(fmt) if not fmt.no_number(bits)]
            for x in itertools.product(kinds, repeat=2):
                self.check_back(f, list(x))
            for bits in (1, 2, 3, fmt.make(0, 1, 0), fmt.make(0, 1, 0) - 1, fmt.largest(0), fmt.largest(0) - 1):
                self.check_back(f, [bits, fmt.turned(bits)])
            for e in range(fmt.emin - fmt.p + 1, fmt.emax + 1, 1 if f == 0 else 11):
                bits = fmt.bits(power_of_two(e))
                self.check_back(f, [bits - 1, fmt.turned(bits)])

    def test_no_numbers_do_not(self):
        for f, fmt in self.each():
            for bits in (fmt.quiet(), fmt.loud(), fmt.quiet(1)):
                for form in (SHORT, SIXTEENS):
                    self.assertEqual(read(f, NEAR, text(f, form, [bits, 0])[1:])[0], -2)
                    self.assertEqual(read(f, NEAR, text(f, form, [0, bits])[1:])[0], -2)


if __name__ == "__main__":
    unittest.main()
