"""Z1 at the formats' edges: ties, overflow, underflow, small ones that come in, up; flags just so."""

import unittest
from fractions import Fraction

from oncerounded.complexes import one, two
from tests.oracle import (ADD, BY_NUMBER, CUT, DIV, DOWN, FORMATS, MUL, NEAR, ROUNDINGS, SQRT, SUB, UPWARD,
                          came, power_of_two)


class EveryFormat(unittest.TestCase):
    def each(self):
        return [(f, BY_NUMBER[f]) for f in FORMATS]

    def check(self, f, operation, x, y, expected):
        """expected: for each rounding the real part and the flags."""
        for r in ROUNDINGS:
            answer = two(f, operation, r, x, y)
            with self.subTest(f=f, r=r):
                self.assertEqual((answer[0], answer[1], answer[3]), (0,) + expected[r])


class Overflow(EveryFormat):
    def test_product_above(self):
        for f, fmt in self.each():
            x, y = [fmt.largest(0), 0], [fmt.bits(2), 0]
            self.check(f, MUL, x, y, {NEAR: (fmt.inf(0), 168), DOWN: (fmt.largest(0), 40),
                                      UPWARD: (fmt.inf(0), 168), CUT: (fmt.largest(0), 40)})

    def test_product_below(self):
        for f, fmt in self.each():
            x, y = [fmt.largest(1), 0], [fmt.bits(2), 0]
            self.check(f, MUL, x, y, {NEAR: (fmt.inf(1), 168), DOWN: (fmt.inf(1), 168),
                                      UPWARD: (fmt.largest(1), 40), CUT: (fmt.largest(1), 40)})

    def test_imaginary_part(self):
        for f, fmt in self.each():
            self.assertEqual(two(f, MUL, NEAR, [0, fmt.largest(0)], [fmt.bits(2), 0]), [0, 0, fmt.inf(0), 168])

    def test_quotient(self):
        for f, fmt in self.each():
            x, y = [fmt.largest(1), 0], [fmt.bits(Fraction(1, 2)), 0]
            self.check(f, DIV, x, y, {NEAR: (fmt.inf(1), 168), DOWN: (fmt.inf(1), 168),
                                      UPWARD: (fmt.largest(1), 40), CUT: (fmt.largest(1), 40)})

    def test_sum_never_tells_up(self):
        for f, fmt in self.each():
            x = [fmt.largest(0), 0]
            self.check(f, ADD, x, x, {NEAR: (fmt.inf(0), 40), DOWN: (fmt.largest(0), 40),
                                      UPWARD: (fmt.inf(0), 40), CUT: (fmt.largest(0), 40)})
            y = [fmt.largest(1), 0]
            self.check(f, SUB, y, x, {NEAR: (fmt.inf(1), 40), DOWN: (fmt.inf(1), 40),
                                      UPWARD: (fmt.largest(1), 40), CUT: (fmt.largest(1), 40)})

    def test_half_a_step_above_the_largest(self):
        for f, fmt in self.each():
            x, y = [fmt.largest(0), 0], [fmt.bits(power_of_two(fmt.emax - fmt.p)), 0]
            self.check(f, ADD, x, y, {NEAR: (fmt.inf(0), 40), DOWN: (fmt.largest(0), 32),
                                      UPWARD: (fmt.inf(0), 40), CUT: (fmt.largest(0), 32)})

    def test_less_than_half_a_step_above_the_largest(self):
        for f, fmt in self.each():
            x, y = [fmt.largest(0), 0], [fmt.bits(power_of_two(fmt.emax - fmt.p)) - 1, 0]
            self.check(f, ADD, x, y, {NEAR: (fmt.largest(0), 32), DOWN: (fmt.largest(0), 32),
                                      UPWARD: (fmt.inf(0), 40), CUT: (fmt.largest(0), 32)})

    def test_products_that_overflow_but_not_their_difference(self):
        for f, fmt in self.each():
            x, y = [fmt.largest(0), fmt.largest(0)], [fmt.bits(3), fmt.bits(2)]
            for r in ROUNDINGS:
                self.assertEqual(two(f, MUL, r, x, y)[1], fmt.largest(0))


class Underflow(EveryFormat):
    def test_half_the_smallest(self):
        for f, fmt in self.each():
            x, y = [fmt.make(0, 0, 1), 0], [fmt.bits(Fraction(1, 2)), 0]
            self.check(f, MUL, x, y, {NEAR: (0, 50), DOWN: (0, 50), UPWARD: (1, 178), CUT: (0, 50)})
            self.check(f, DIV, x, [fmt.bits(2), 0],
                       {NEAR: (0, 50), DOWN: (0, 50), UPWARD: (1, 178), CUT: (0, 50)})

    def test_minus_half_the_smallest(self):
        for f, fmt in self.each():
            x, y = [fmt.make(1, 0, 1), 0], [fmt.bits(Fraction(1, 2)), 0]
            zero, smallest = fmt.zero(1), fmt.make(1, 0, 1)
            self.check(f, MUL, x, y, {NEAR: (zero, 50), DOWN: (smallest, 178), UPWARD: (zero, 50), CUT: (zero, 50)})

    def test_three_halves_of_the_smallest(self):
        for f, fmt in self.each():
            x, y = [fmt.make(0, 0, 1), 0], [fmt.bits(Fraction(3, 2)), 0]
            self.check(f, MUL, x, y, {NEAR: (2, 178), DOWN: (1, 50), UPWARD: (2, 178), CUT: (1, 50)})

    def test_of_normal_ones_far_below(self):
        for f, fmt in self.each():
            lowest = fmt.make(0, 1, 0)
            self.check(f, MUL, [lowest, 0], [lowest, 0],
                       {NEAR: (0, 48), DOWN: (0, 48), UPWARD: (1, 176), CUT: (0, 48)})

    def test_exact_small_result_has_no_flag(self):
        for f, fmt in self.each():
            x, y = [fmt.make(0, 1, 0), 0], [fmt.bits(Fraction(1, 2)), 0]
            small = fmt.make(0, 0, 1 << (fmt.p - 2))
            self.check(f, MUL, x, y, {r: (small, 0) for r in ROUNDINGS})

    def below_the_lowest_normal(self, fmt, times, digits):
        """x and y whose product's real part is 2^emin - times 2^(emin - digits)."""
        half = power_of_two(fmt.emin // 2)
        power = fmt.emin - digits
        b, d = times * power_of_two(power // 2), power_of_two(power - power // 2)
        return [fmt.bits(half), fmt.bits(b)], [fmt.bits(half), fmt.bits(d)]

    def test_rounded_up_to_the_lowest_normal_before_the_exponents_end(self):
        # 2^emin - 2^(emin - p - 1): to p digits a tie whose even side is 2^emin, so no underflow by near and up.
        for f, fmt in self.each():
            x, y = self.below_the_lowest_normal(fmt, 1, fmt.p + 1)
            normal = fmt.make(0, 1, 0)
            self.check(f, MUL, x, y, {NEAR: (normal, 160), DOWN: (normal - 1, 48),
                                      UPWARD: (normal, 160), CUT: (normal - 1, 48)})

    def test_rounded_up_to_the_lowest_normal_by_the_exponents_end(self):
        # 2^emin - 3/8 of the smallest: to p digits it stays below, as a multiple of the smallest it doesn't.
        for f, fmt in self.each():
            x, y = self.below_the_lowest_normal(fmt, 3, fmt.p + 2)
            normal = fmt.make(0, 1, 0)
            self.check(f, MUL, x, y, {NEAR: (normal, 176), DOWN: (normal - 1, 48),
                                      UPWARD: (normal, 160), CUT: (normal - 1, 48)})

    def test_not_rounded_twice(self):
        # Just below 3/2 of the smallest: rounded to p digits first it would be a tie, and that would go to 2.
        for f, fmt in self.each():
            smallest = power_of_two(fmt.emin - fmt.p + 1)
            a, b = power_of_two(fmt.emin // 2), power_of_two(fmt.emin // 2 - fmt.p)
            c, d = smallest * Fraction(3, 2) / a, smallest * power_of_two(-fmt.p - 3) / b
            x, y = [fmt.bits(a), fmt.bits(b)], [fmt.bits(c), fmt.bits(d)]
            small = came(fmt, x + y)
            self.check(f, MUL, x, y, {NEAR: (1, 48 | small), DOWN: (1, 48 | small),
                                      UPWARD: (2, 176 | small), CUT: (1, 48 | small)})


class Ties(EveryFormat):
    def test_to_the_even_one(self):
        for f, fmt in self.each():
            step = power_of_two(1 - fmt.p)
            half = [fmt.bits(step / 2), 0]
            for low in (1, 1 + step):
                even = low if low == 1 else low + step
                x = [fmt.bits(low), 0]
                self.check(f, ADD, x, half, {NEAR: (fmt.bits(even), 32), DOWN: (fmt.bits(low), 32),
                                             UPWARD: (fmt.bits(low + step), 32), CUT: (fmt.bits(low), 32)})

    def test_of_products(self):
        for f, fmt in self.each():
            step = power_of_two(1 - fmt.p)
            x = [fmt.bits(1 + step), fmt.zero(0)]
            # (1 + step) 3 / 2 is a tie: 3/2 + 3/2 step.
            y = [fmt.bits(Fraction(3, 2)), fmt.zero(0)]
            low, high = fmt.bits(Fraction(3, 2) + step), fmt.bits(Fraction(3, 2) + 2 * step)
            self.check(f, MUL, x, y, {NEAR: (high, 160), DOWN: (low, 32), UPWARD: (high, 160), CUT: (low, 32)})
            x = [fmt.turned(x[0]), x[1]]
            low, high = fmt.turned(high), fmt.turned(low)
            self.check(f, MUL, x, y, {NEAR: (low, 160), DOWN: (low, 160), UPWARD: (high, 32), CUT: (high, 32)})


class SmallOnesComeIn(EveryFormat):
    def test_in_each_place_of_two(self):
        for f, fmt in self.each():
            small = fmt.make(1, 0, 3)
            for operation in (ADD, SUB, MUL, DIV):
                for place in range(4):
                    parts = [fmt.bits(4)] * 4
                    without = two(f, operation, NEAR, parts[:2], parts[2:])
                    parts[place] = small
                    answer = two(f, operation, NEAR, parts[:2], parts[2:])
                    self.assertEqual((without[3] & 2, answer[3] & 2), (0, 2), (operation, place))

    def test_in_each_place_of_a_root(self):
        for f, fmt in self.each():
            small = fmt.make(0, 0, 1)
            for x in ([small, fmt.bits(4)], [fmt.bits(4), small], [small, 0], [0, small]):
                for r in ROUNDINGS:
                    self.assertEqual(one(f, SQRT, r, x)[3] & 2, 2)

    def test_with_exact_results(self):
        for f, fmt in self.each():
            small = fmt.make(0, 0, 1)
            for r in ROUNDINGS:
                zero = fmt.zero(1 if r == DOWN else 0)
                self.assertEqual(two(f, ADD, r, [small, 0], [small, 0]), [0, 2, 0, 2])
                self.assertEqual(two(f, SUB, r, [small, small], [small, small]), [0, zero, zero, 2])
                self.assertEqual(two(f, MUL, r, [small, 0], [fmt.one(0), 0]), [0, small, 0, 2])
                self.assertEqual(two(f, MUL, r, [small, 0], [0, 0])[3], 2)

    def test_beside_infinite_ones_and_no_numbers(self):
        for f, fmt in self.each():
            small, inf = fmt.make(0, 0, 1), fmt.inf(0)
            self.assertEqual(two(f, ADD, NEAR, [small, 0], [inf, 0]), [0, inf, 0, 2])
            self.assertEqual(two(f, ADD, NEAR, [small, 0], [fmt.quiet(), 0]), [0, fmt.quiet(), 0, 0])
            self.assertEqual(two(f, ADD, NEAR, [small, 0], [fmt.loud(), 0]), [0, fmt.quiet(0, 1), 0, 1])
            self.assertEqual(two(f, MUL, NEAR, [small, small], [inf, 0])[3] & 2, 2)
            # In these div tells no flags but 1 and 4.
            self.assertEqual(two(f, DIV, NEAR, [small, small], [inf, inf])[3], 0)
            self.assertEqual(two(f, DIV, NEAR, [inf, inf], [small, small])[3], 0)
            self.assertEqual(two(f, DIV, NEAR, [small, small], [0, 0])[3], 4)

    def test_made_on_the_way_is_none_that_came_in(self):
        for f, fmt in self.each():
            x, y = [fmt.make(0, 1, 0), 0], [fmt.bits(Fraction(1, 2)), 0]
            self.assertEqual(two(f, MUL, NEAR, x, y)[3], 0)


class Up(EveryFormat):
    def test_of_either_part(self):
        # 1 / (1 + 2i) is 1/5 - 2/5 i, and only the sizes are compared.
        for f, fmt in self.each():
            fifth = Fraction(1, 5)
            near_is_above = abs(fmt.value(two(f, DIV, NEAR, [fmt.one(0), 0], [fmt.one(0), fmt.bits(2)])[1])) > fifth
            expected = {NEAR: 160 if near_is_above else 32, DOWN: 160, UPWARD: 160, CUT: 32}
            for r in ROUNDINGS:
                self.assertEqual(two(f, DIV, r, [fmt.one(0), 0], [fmt.one(0), fmt.bits(2)])[3], expected[r])

    def test_of_the_imaginary_part_alone(self):
        for f, fmt in self.each():
            third = [fmt.one(0), 0], [0, fmt.bits(3)]
            # 1 / 3i: re is an exact zero, im is -1/3.
            for r, flags in ((DOWN, 160), (UPWARD, 32), (CUT, 32)):
                self.assertEqual(two(f, DIV, r, third[0], third[1])[3], flags)

    def test_of_a_root(self):
        for f, fmt in self.each():
            for r, flags in ((DOWN, 32), (UPWARD, 160), (CUT, 32)):
                self.assertEqual(one(f, SQRT, r, [fmt.bits(2), 0])[3], flags)
            for r, flags in ((DOWN, 160), (UPWARD, 32), (CUT, 32)):
                self.assertEqual(one(f, SQRT, r, [fmt.bits(-2), fmt.zero(1)])[3], flags)


if __name__ == "__main__":
    unittest.main()
