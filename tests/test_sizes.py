"""abs and norm: rounded once, flags just so; Z3 as far as abs goes; zero, infinite ones, none."""

import itertools
import math
import random
import unittest
from fractions import Fraction

from oncerounded.complexes import one, real
from tests import oracle
from tests.oracle import (ABS, BY_NUMBER, CONJ, CUT, DOWN, FORMATS, NEAR, NORM, ROUNDINGS, SINGLE, TIMES_I, UPWARD,
                          norm_of, power_of_two, random_finite)


class EveryFormat(unittest.TestCase):
    def each(self):
        return [(f, BY_NUMBER[f]) for f in FORMATS]

    def check(self, f, operation, x, expected):
        """expected: for each rounding the float and the flags; of every sign and order of the parts."""
        fmt = BY_NUMBER[f]
        for r in ROUNDINGS:
            for a, b in (x, x[::-1]):
                for u, v in itertools.product((a, fmt.turned(a)), (b, fmt.turned(b))):
                    with self.subTest(f=f, r=r, x=[u, v]):
                        self.assertEqual(real(f, operation, r, [u, v]), [0, *expected[r]])

    def check_exact(self, f, operation, x, bits, flags=0):
        self.check(f, operation, x, {r: (bits, flags) for r in ROUNDINGS})


class Ordinary(EveryFormat):
    def test_three_and_four(self):
        self.assertEqual(real(1, ABS, NEAR, [0x40400000, 0x40800000]), [0, 0x40A00000, 0])
        self.assertEqual(real(1, NORM, NEAR, [0x40400000, 0x40800000]), [0, 0x41C80000, 0])
        self.assertEqual(real(0, ABS, NEAR, [0x4200, 0x4400]), [0, 0x4500, 0])
        self.assertEqual(real(2, ABS, NEAR, [0x4008000000000000, 0x4010000000000000]), [0, 0x4014000000000000, 0])

    def test_exact_ones(self):
        for f, fmt in self.each():
            for a, b, c in ((3, 4, 5), (5, 12, 13), (8, 15, 17), (20, 21, 29)):
                for k in (-3, 0, 3):
                    x = [fmt.bits(a * power_of_two(k)), fmt.bits(b * power_of_two(k))]
                    self.check_exact(f, ABS, x, fmt.bits(c * power_of_two(k)))
                    self.check_exact(f, NORM, x, fmt.bits(c * c * power_of_two(2 * k)))

    def test_root_of_two(self):
        for f, fmt in self.each():
            low = Fraction(math.isqrt(2 << (2 * fmt.p - 2)), 1 << (fmt.p - 1))
            high = low + power_of_two(1 - fmt.p)
            above = (low + high) ** 2 < 8
            below, over = (fmt.bits(low), 32), (fmt.bits(high), 160)
            self.check(f, ABS, [fmt.one(0), fmt.one(0)],
                       {NEAR: over if above else below, DOWN: below, UPWARD: over, CUT: below})

    def test_one_part_zero(self):
        for f, fmt in self.each():
            for bits in (fmt.one(0), fmt.largest(0), fmt.make(0, 1, 0), fmt.make(0, 1, 7)):
                self.check_exact(f, ABS, [bits, 0], bits)
            for bits in (1, 2, 3, (1 << fmt.fraction_bits) - 1):
                self.check_exact(f, ABS, [bits, 0], bits, 2)

    def test_zero(self):
        for f, fmt in self.each():
            for operation in (ABS, NORM):
                self.check_exact(f, operation, [0, 0], 0)


class Edges(EveryFormat):
    def test_square_overflows_and_root_does_not(self):
        for f, fmt in self.each():
            k = power_of_two(fmt.emax - 2)
            self.check_exact(f, ABS, [fmt.bits(3 * k), fmt.bits(4 * k)], fmt.bits(5 * k))

    def test_square_underflows_and_root_does_not(self):
        for f, fmt in self.each():
            k = power_of_two(fmt.emin)
            self.check_exact(f, ABS, [fmt.bits(3 * k), fmt.bits(4 * k)], fmt.bits(5 * k))
            self.check_exact(f, ABS, [3, 4], 5, 2)

    def test_abs_overflows(self):
        for f, fmt in self.each():
            down, up = (fmt.largest(0), 40), (fmt.inf(0), 168)
            expected = {NEAR: up, DOWN: down, UPWARD: up, CUT: down}
            self.check(f, ABS, [fmt.largest(0), fmt.largest(0)], expected)
            self.check(f, ABS, [fmt.largest(0), fmt.bits(power_of_two(fmt.emax))], expected)

    def test_abs_just_above_the_largest(self):
        # By less than half a step: only up goes over, and by the others the size isn't 2^(emax + 1) either.
        for f, fmt in self.each():
            low, over = (fmt.largest(0), 32), (fmt.inf(0), 168)
            self.check(f, ABS, [fmt.largest(0), fmt.one(0)], {NEAR: low, DOWN: low, UPWARD: over, CUT: low})
            self.check(f, ABS, [fmt.largest(0), 1],
                       {r: (bits, flags | 2) for r, (bits, flags) in
                        {NEAR: low, DOWN: low, UPWARD: over, CUT: low}.items()})

    def test_abs_underflows(self):
        for f, fmt in self.each():
            # The root of 2, and of 8, times the smallest.
            self.check(f, ABS, [1, 1], {NEAR: (1, 50), DOWN: (1, 50), UPWARD: (2, 178), CUT: (1, 50)})
            self.check(f, ABS, [2, 2], {NEAR: (3, 178), DOWN: (2, 50), UPWARD: (3, 178), CUT: (2, 50)})

    def test_abs_of_small_ones_may_be_normal(self):
        for f, fmt in self.each():
            k = 1 << (fmt.fraction_bits - 2)
            self.check_exact(f, ABS, [3 * k, 0], 3 * k, 2)
            lowest = fmt.make(0, 1, 0)
            for r in ROUNDINGS:
                answer = real(f, ABS, r, [lowest - 1, lowest - 1])
                self.assertGreaterEqual(answer[1], lowest)
                self.assertEqual(answer[2] & ~128, 34)

    def test_norm_overflows(self):
        for f, fmt in self.each():
            down, up = (fmt.largest(0), 40), (fmt.inf(0), 168)
            expected = {NEAR: up, DOWN: down, UPWARD: up, CUT: down}
            self.check(f, NORM, [fmt.largest(0), 0], expected)
            half = fmt.bits(power_of_two((fmt.emax + 1) // 2))
            self.check(f, NORM, [half, 0], expected)
            # Neither square is too great, but their sum is.
            three = fmt.bits(3 * power_of_two((fmt.emax - 1) // 2 - 1))
            self.check(f, NORM, [three, three], expected)

    def test_norm_underflows(self):
        for f, fmt in self.each():
            low, over = (0, 48), (1, 176)
            lowest = fmt.make(0, 1, 0)
            self.check(f, NORM, [lowest, 0], {NEAR: low, DOWN: low, UPWARD: over, CUT: low})
            self.check(f, NORM, [1, 1], {NEAR: (0, 50), DOWN: (0, 50), UPWARD: (1, 178), CUT: (0, 50)})
            # Half the smallest, and three halves of it: ties to even.
            power = (fmt.emin - fmt.p) // 2
            u = fmt.bits(power_of_two(power))
            smallest = power_of_two(fmt.emin - fmt.p + 1)
            exact = power_of_two(2 * power) / smallest
            self.assertIn(exact, (Fraction(1, 2), Fraction(1, 4)))
            if exact == Fraction(1, 4):
                self.check(f, NORM, [u, u], {NEAR: low, DOWN: low, UPWARD: over, CUT: low})
            else:
                self.check(f, NORM, [u, 0], {NEAR: low, DOWN: low, UPWARD: over, CUT: low})
                self.check_exact(f, NORM, [u, u], 1)

    def test_norm_of_both_squares_at_once(self):
        # Each square alone is rounded to 1; both rests together make a step.
        for f, fmt in self.each():
            a, b = 1 + power_of_two(1 - fmt.p), power_of_two(-(fmt.p // 2) - 1)
            exact = a * a + b * b
            step = power_of_two(1 - fmt.p)
            floor = exact // step * step
            self.assertNotEqual(floor, exact)
            rest = (exact - floor) / step
            self.assertNotEqual(rest, Fraction(1, 2))
            low, over = (fmt.bits(floor), 32), (fmt.bits(floor + step), 160)
            self.check(f, NORM, [fmt.bits(a), fmt.bits(b)],
                       {NEAR: over if rest > Fraction(1, 2) else low, DOWN: low, UPWARD: over, CUT: low})


class Ties(EveryFormat):
    def triple(self, fmt, times):
        """times (m m - n n), times 2 m n: floats, whose root is whole, odd, and has one digit of two too many."""
        limit, most = 1 << fmt.p, math.isqrt((1 << fmt.p) // times)
        for m in range(most * 93 // 100, most):
            for n in range(m * 40 // 100, m * 45 // 100):
                size = times * (m * m + n * n)
                if size % 2 and limit < size < 2 * limit and max(times * (m * m - n * n), times * 2 * m * n) < limit:
                    return times * (m * m - n * n), times * 2 * m * n, size
        raise ValueError("no such numbers")

    def test_to_the_even_one(self):
        for f, fmt in self.each():
            for times in (1, 3):
                a, b, size = self.triple(fmt, times)
                shrink = power_of_two(-fmt.p)
                low, over = (fmt.bits((size - 1) * shrink), 32), (fmt.bits((size + 1) * shrink), 160)
                near = low if (size - 1) // 2 % 2 == 0 else over
                self.assertEqual(near is low, times == 1)
                self.check(f, ABS, [fmt.bits(a * shrink), fmt.bits(b * shrink)],
                           {NEAR: near, DOWN: low, UPWARD: over, CUT: low})

    def test_just_beside_a_tie(self):
        # 1 + 2^-p is the tie; its square is 1 + 2^(1 - p) and 2^(-2 p) more, which decides.
        for f, fmt in self.each():
            root = power_of_two(-(fmt.p // 2))
            tie = 1 + power_of_two(-fmt.p)
            for b in (root, root / 2, root * 2, root * Fraction(3, 2), root * Fraction(3, 4)):
                x = [fmt.one(0), fmt.bits(b)]
                near = real(f, ABS, NEAR, x)[1]
                self.assertEqual(near == fmt.one(0), norm_of(fmt, x) < tie * tie)


class Roots(EveryFormat):
    def test_no_float_lies_between(self):
        source = random.Random(31)
        for f, fmt in self.each():
            for times in range(400):
                x = [random_finite(fmt, source, source.choice((None, 0, 2, fmt.p))) for place in range(2)]
                square = norm_of(fmt, x)
                for r in ROUNDINGS:
                    self.check_neighbours(fmt, r, real(f, ABS, r, x), square)

    def check_neighbours(self, fmt, r, answer, square):
        bits = answer[1]
        if bits == fmt.inf(0):
            self.assertGreater(square, fmt.value(fmt.largest(0)) ** 2)
            return
        told = fmt.value(bits) ** 2
        self.assertEqual(bool(answer[2] & 32), told != square)
        self.assertEqual(bool(answer[2] & 128), told > square)
        if told < square and bits != fmt.largest(0):
            self.assertGreater(fmt.value(bits + 1) ** 2, square)
            self.assertNotEqual(r, UPWARD)
        if told > square:
            self.assertLess(fmt.value(bits - 1) ** 2, square)
            self.assertIn(r, (NEAR, UPWARD))


class Flags(EveryFormat):
    def test_small_ones_come_in(self):
        for f, fmt in self.each():
            for operation in (ABS, NORM):
                for r in ROUNDINGS:
                    self.assertEqual(real(f, operation, r, [fmt.one(0), fmt.one(1)])[2] & 2, 0)
                    self.assertEqual(real(f, operation, r, [fmt.make(1, 0, 1), fmt.one(1)])[2] & 2, 2)
                    self.assertEqual(real(f, operation, r, [fmt.one(1), fmt.make(0, 0, 5)])[2] & 2, 2)

    def test_a_small_part_beside_a_great_one(self):
        for f, fmt in self.each():
            for operation in (ABS, NORM):
                self.check(f, operation, [fmt.one(0), 1],
                           {NEAR: (fmt.one(0), 34), DOWN: (fmt.one(0), 34), UPWARD: (fmt.one(0) + 1, 162),
                            CUT: (fmt.one(0), 34)})


class NotFinite(EveryFormat):
    def test_infinite(self):
        for f, fmt in self.each():
            for operation, r, s in itertools.product((ABS, NORM), ROUNDINGS, (0, 1)):
                for other in (0, 1, fmt.one(1), fmt.inf(0), fmt.inf(1), fmt.quiet(0, 3), fmt.quiet(1),
                              fmt.loud(0, 1), fmt.loud(1, 2)):
                    self.assertEqual(real(f, operation, r, [fmt.inf(s), other]), [0, fmt.inf(0), 0])
                    self.assertEqual(real(f, operation, r, [other, fmt.inf(s)]), [0, fmt.inf(0), 0])

    def test_none(self):
        for f, fmt in self.each():
            for operation, r in itertools.product((ABS, NORM), ROUNDINGS):
                quiet, other, loud = fmt.quiet(1, 5), fmt.quiet(0, 6), fmt.loud(1, 3)
                calm = fmt.made_quiet(loud)
                for finite in (0, 1, fmt.one(1)):
                    self.assertEqual(real(f, operation, r, [quiet, finite]), [0, quiet, 0])
                    self.assertEqual(real(f, operation, r, [finite, quiet]), [0, quiet, 0])
                    self.assertEqual(real(f, operation, r, [loud, finite]), [0, calm, 1])
                    self.assertEqual(real(f, operation, r, [finite, loud]), [0, calm, 1])
                self.assertEqual(real(f, operation, r, [quiet, other]), [0, quiet, 0])
                self.assertEqual(real(f, operation, r, [other, quiet]), [0, other, 0])
                self.assertEqual(real(f, operation, r, [quiet, loud]), [0, quiet, 1])
                self.assertEqual(real(f, operation, r, [loud, quiet]), [0, calm, 1])


class Turned(EveryFormat):
    def test_conj_and_times_i_keep_the_size(self):
        source = random.Random(32)
        for f, fmt in self.each():
            for times in range(100):
                x = [random_finite(fmt, source, source.choice((None, 2))) for place in range(2)]
                for operation, r, turn in itertools.product((ABS, NORM), ROUNDINGS, (CONJ, TIMES_I)):
                    y = one(f, turn, r, x)[1:3]
                    self.assertEqual(real(f, operation, r, x), real(f, operation, r, y))


class AgainstFractions(EveryFormat):
    def check_all(self, f, x):
        for operation, r in itertools.product((ABS, NORM), ROUNDINGS):
            self.assertEqual(real(f, operation, r, x), oracle.real(f, operation, r, x), (f, operation, r, x))

    def test_of_finite_ones(self):
        source = random.Random(33)
        for f, fmt in self.each():
            for times in range(400):
                spread = source.choice((None, 0, 1, 3, fmt.p, 2 * fmt.p))
                self.check_all(f, [random_finite(fmt, source, spread) for place in range(2)])

    def test_at_the_exponents_ends(self):
        source = random.Random(34)
        for f, fmt in self.each():
            ends = (0, 0, 1, fmt.emax // 2, fmt.emax // 2 + 1, fmt.emax + fmt.emax // 2, fmt.all_ones - 2,
                    fmt.all_ones - 1)
            for times in range(300):
                self.check_all(f, [fmt.make(source.getrandbits(1), source.choice(ends),
                                            source.getrandbits(fmt.fraction_bits)) for place in range(2)])

    def test_of_every_kind(self):
        for f, fmt in self.each():
            for x in itertools.product(oracle.kinds_of_floats(fmt), repeat=2):
                self.check_all(f, list(x))

    def test_of_doubles_agrees_with_python(self):
        source = random.Random(35)
        fmt = oracle.DOUBLE
        for times in range(300):
            a, b = (random_finite(fmt, source, 20) for place in range(2))
            told = float(fmt.value(real(2, ABS, NEAR, [a, b])[1]))
            self.assertLessEqual(abs(told - math.hypot(float(fmt.value(a)), float(fmt.value(b)))), math.ulp(told))


class WrittenOut(unittest.TestCase):
    def test_of_singles(self):
        # The root of 5, 2.2360679..., and 0.1 + 0.2i squared.
        self.assertEqual(real(1, ABS, NEAR, [SINGLE.bits(1), SINGLE.bits(2)]), [0, 0x400F1BBD, 160])
        self.assertEqual(real(1, ABS, CUT, [SINGLE.bits(1), SINGLE.bits(2)]), [0, 0x400F1BBC, 32])
        self.assertEqual(real(1, NORM, NEAR, [0x3DCCCCCD, 0x3E4CCCCD])[1], 0x3D4CCCCD)


if __name__ == "__main__":
    unittest.main()
