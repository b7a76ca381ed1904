"""Roots: exact ones, others, their edges; and Z3 of them."""

import math
import random
import unittest
from fractions import Fraction

from oncerounded.complexes import one
from tests.oracle import (BY_NUMBER, CUT, DOWN, FORMATS, NEAR, ROUNDINGS, SQRT, UPWARD, one as told_by_oracle,
                          power_of_two, random_finite, root_parts)


class EveryFormat(unittest.TestCase):
    def each(self):
        for f in FORMATS:
            for r in ROUNDINGS:
                yield f, BY_NUMBER[f], r


class Exact(EveryFormat):
    def test_squares(self):
        # (u + v i) squared is u u - v v + 2 u v i.
        for f, fmt, r in self.each():
            for u, v in ((2, 1), (1, 2), (5, 3), (7, 0), (1, 1), (Fraction(1, 2), 3), (Fraction(3, 4), Fraction(5, 4))):
                for sign in (1, -1):
                    x = [fmt.bits(u * u - v * v), fmt.bits(2 * u * v * sign)]
                    if v != 0:
                        self.assertEqual(one(f, SQRT, r, x), [0, fmt.bits(u), fmt.bits(v * sign), 0], (f, r, u, v))

    def test_of_plus_and_minus_i(self):
        for f, fmt, r in self.each():
            self.assertEqual(one(f, SQRT, r, [0, fmt.bits(2)]), [0, fmt.one(0), fmt.one(0), 0])
            self.assertEqual(one(f, SQRT, r, [fmt.zero(1), fmt.bits(-2)]), [0, fmt.one(0), fmt.one(1), 0])

    def test_zero_of_either_sign_beside_a_real_part(self):
        for f, fmt, r in self.each():
            for sign in (0, 1):
                self.assertEqual(one(f, SQRT, r, [fmt.bits(Fraction(25, 4)), fmt.zero(sign)]),
                                 [0, fmt.bits(Fraction(5, 2)), fmt.zero(sign), 0])
                self.assertEqual(one(f, SQRT, r, [fmt.bits(Fraction(-25, 4)), fmt.zero(sign)]),
                                 [0, 0, fmt.bits(Fraction(-5 if sign else 5, 2)), 0])

    def test_at_the_exponents_end(self):
        for f, fmt, r in self.each():
            lowest = fmt.emin - fmt.p + 1
            x = [fmt.bits(power_of_two(lowest + lowest % 2)), 0]
            small = 2 if lowest + lowest % 2 < fmt.emin else 0
            self.assertEqual(one(f, SQRT, r, x), [0, fmt.bits(power_of_two((lowest + lowest % 2) // 2)), 0, small])
            highest = fmt.emax - fmt.emax % 2
            x = [fmt.bits(-power_of_two(highest)), fmt.zero(1)]
            self.assertEqual(one(f, SQRT, r, x), [0, 0, fmt.bits(-power_of_two(highest // 2)), 0])


class Inexact(EveryFormat):
    def test_root_of_two(self):
        # 1.41421356... of singles is 3FB504F3, which is below it.
        expected = {NEAR: (0x3FB504F3, 32), DOWN: (0x3FB504F3, 32), UPWARD: (0x3FB504F4, 160), CUT: (0x3FB504F3, 32)}
        for r in ROUNDINGS:
            self.assertEqual(one(1, SQRT, r, [0x40000000, 0]), [0, expected[r][0], 0, expected[r][1]])

    def test_root_of_minus_two(self):
        expected = {NEAR: (0xBFB504F3, 32), DOWN: (0xBFB504F4, 160), UPWARD: (0xBFB504F3, 32), CUT: (0xBFB504F3, 32)}
        for r in ROUNDINGS:
            self.assertEqual(one(1, SQRT, r, [0xC0000000, 0x80000000]), [0, 0, expected[r][0], expected[r][1]])

    def test_real_roots_of_doubles_agree_with_python(self):
        fmt, source = BY_NUMBER[2], random.Random(2)
        for times in range(300):
            bits = fmt.make(0, source.randrange(1, 2047), source.getrandbits(52))
            expected = fmt.bits(Fraction(math.sqrt(float(fmt.value(bits)))))
            self.assertEqual(one(2, SQRT, NEAR, [bits, 0])[1], expected)

    def test_parts_of_hugely_different_size(self):
        for f, fmt, r in self.each():
            large, small = fmt.largest(0), fmt.make(0, 0, 1)
            for x in ([large, small], [fmt.turned(large), small], [small, large], [small, fmt.turned(large)],
                      [large, fmt.turned(small)], [fmt.turned(large), fmt.turned(small)],
                      [fmt.one(0), small], [fmt.one(1), small], [small, fmt.one(1)]):
                self.assertEqual(one(f, SQRT, r, x), told_by_oracle(f, SQRT, r, x), (f, r, x))

    def test_underflow_of_the_small_part(self):
        # The root of the largest and of the smallest: half the smallest by a number far above 1.
        for f, fmt, r in self.each():
            # The largest one's root lies just below the middle of two floats.
            re_flags = 32 | (128 if r == UPWARD else 0)
            answer = one(f, SQRT, r, [fmt.largest(0), 1])
            self.assertEqual(answer[2], 1 if r == UPWARD else 0)
            self.assertEqual(answer[3], re_flags | 16 | 2)
            answer = one(f, SQRT, r, [fmt.largest(0), fmt.make(1, 0, 1)])
            self.assertEqual(answer[2], fmt.make(1, 0, 1) if r == DOWN else fmt.zero(1))
            self.assertEqual(answer[3], re_flags | 16 | 2 | (128 if r == DOWN else 0))

    def test_one_step_beside_an_exact_root(self):
        for f, fmt, r in self.each():
            for a, b in ((3, 4), (-3, 4), (0, 2), (9, 0), (-9, 0), (5, -12)):
                for da, db in ((1, 0), (-1, 0), (0, 1), (0, -1)):
                    x = [max(fmt.bits(a) + da, 0), max(fmt.bits(b) + db, 0)]
                    self.assertEqual(one(f, SQRT, r, x), told_by_oracle(f, SQRT, r, x), (f, r, x))

    def test_halves_of_all_sizes(self):
        fmt = BY_NUMBER[0]
        for a in range(0, 0x7C00, 121):
            for r in ROUNDINGS:
                for x in ([a, 0], [fmt.turned(a), 0], [0x3C01, a], [a, 0x8401]):
                    self.assertEqual(one(0, SQRT, r, x), told_by_oracle(0, SQRT, r, x), (r, x))


class NothingBetween(unittest.TestCase):
    """Z3: beside a part that's told, the next float toward the exact one lies at it or behind it."""

    def check_part(self, fmt, bits, exact):
        if exact.is_zero():
            self.assertEqual(bits, fmt.zero(exact.sign))
            return
        self.assertEqual(fmt.sign(bits), exact.sign)
        size = fmt.turned(bits) if exact.sign else bits
        side = exact.compare(fmt.value(size))
        if side > 0 and size + 1 < fmt.inf(0):
            self.assertLessEqual(exact.compare(fmt.value(size + 1)), 0)
        if side < 0:
            self.assertGreaterEqual(exact.compare(fmt.value(size - 1)), 0)

    def test_roots(self):
        source = random.Random(3)
        for f in FORMATS:
            fmt = BY_NUMBER[f]
            for times in range(400):
                spread = source.choice((None, None, 2, fmt.p))
                x = [random_finite(fmt, source, spread), random_finite(fmt, source, spread)]
                if times % 7 == 0:
                    x[times % 2] = fmt.zero(times % 3 % 2)
                answer = one(f, SQRT, times % 4, x)
                self.assertEqual(answer[0], 0)
                self.assertEqual(fmt.sign(answer[1]), 0)
                for bits, exact in zip(answer[1:3], root_parts(fmt, x)):
                    self.check_part(fmt, bits, exact)


class NotFinite(EveryFormat):
    def test_imaginary_part_infinite(self):
        for f, fmt, r in self.each():
            for sign in (0, 1):
                b = fmt.inf(sign)
                for a in (0, fmt.zero(1), fmt.one(1), 1, fmt.inf(0), fmt.inf(1), fmt.quiet(1, 1)):
                    self.assertEqual(one(f, SQRT, r, [a, b]), [0, fmt.inf(0), b, 0])
                self.assertEqual(one(f, SQRT, r, [fmt.loud(), b]), [0, fmt.inf(0), b, 1])

    def test_real_part_plus_infinite(self):
        for f, fmt, r in self.each():
            a = fmt.inf(0)
            for sign in (0, 1):
                for b in (fmt.zero(sign), fmt.make(sign, 0, 1), fmt.one(sign), fmt.largest(sign)):
                    self.assertEqual(one(f, SQRT, r, [a, b]), [0, a, fmt.zero(sign), 0])
                self.assertEqual(one(f, SQRT, r, [a, fmt.quiet(sign, 2)]), [0, a, fmt.quiet(sign, 2), 0])
                self.assertEqual(one(f, SQRT, r, [a, fmt.loud(sign, 2)]), [0, a, fmt.quiet(sign, 2), 1])

    def test_real_part_minus_infinite(self):
        for f, fmt, r in self.each():
            a = fmt.inf(1)
            for sign in (0, 1):
                side = fmt.inf(sign)
                for b in (fmt.zero(sign), fmt.make(sign, 0, 1), fmt.one(sign), fmt.largest(sign)):
                    self.assertEqual(one(f, SQRT, r, [a, b]), [0, fmt.zero(0), side, 0])
                self.assertEqual(one(f, SQRT, r, [a, fmt.quiet(sign, 2)]), [0, fmt.quiet(sign, 2), side, 0])
                self.assertEqual(one(f, SQRT, r, [a, fmt.loud(sign, 2)]), [0, fmt.quiet(sign, 2), side, 1])

    def test_none(self):
        for f, fmt, r in self.each():
            first, second, loud = fmt.quiet(1, 3), fmt.quiet(0, 4), fmt.loud(1, 5)
            calm = fmt.made_quiet(loud)
            self.assertEqual(one(f, SQRT, r, [first, second]), [0, first, first, 0])
            self.assertEqual(one(f, SQRT, r, [first, loud]), [0, first, first, 1])
            self.assertEqual(one(f, SQRT, r, [loud, second]), [0, calm, calm, 1])
            self.assertEqual(one(f, SQRT, r, [fmt.one(0), second]), [0, second, second, 0])
            self.assertEqual(one(f, SQRT, r, [1, loud]), [0, calm, calm, 1])
            self.assertEqual(one(f, SQRT, r, [second, 0]), [0, second, second, 0])


if __name__ == "__main__":
    unittest.main()
