"""Infinite ones and no numbers in add, sub, mul and div."""

import itertools
import unittest
from fractions import Fraction

from oncerounded.complexes import two
from tests.oracle import (ADD, BY_NUMBER, CUT, DIV, DOWN, FORMATS, MUL, NEAR, ROUNDINGS, SUB, UPWARD, is_infinite,
                          is_none, is_zero, kinds_of_floats)


class EveryFormat(unittest.TestCase):
    def each(self):
        for f in FORMATS:
            for r in ROUNDINGS:
                yield f, BY_NUMBER[f], r


class Sums(EveryFormat):
    def test_infinite_ones(self):
        for f, fmt, r in self.each():
            plus, minus, unity = fmt.inf(0), fmt.inf(1), fmt.one(0)
            self.assertEqual(two(f, ADD, r, [plus, unity], [unity, minus]), [0, plus, minus, 0])
            self.assertEqual(two(f, ADD, r, [plus, minus], [plus, minus]), [0, plus, minus, 0])
            self.assertEqual(two(f, ADD, r, [plus, minus], [minus, plus]), [0, fmt.empty(), fmt.empty(), 1])
            self.assertEqual(two(f, SUB, r, [unity, unity], [plus, minus]), [0, minus, plus, 0])
            self.assertEqual(two(f, SUB, r, [plus, plus], [minus, plus]), [0, plus, fmt.empty(), 1])

    def test_no_numbers(self):
        for f, fmt, r in self.each():
            first, second, loud = fmt.quiet(1, 5), fmt.quiet(0, 6), fmt.loud(1, 7)
            for operation in (ADD, SUB):
                self.assertEqual(two(f, operation, r, [first, 0], [second, 0])[1], first)
                self.assertEqual(two(f, operation, r, [fmt.inf(0), 0], [second, 0])[1], second)
                self.assertEqual(two(f, operation, r, [second, 0], [loud, 0])[1::2], [second, 1])
                self.assertEqual(two(f, operation, r, [0, fmt.one(0)], [0, loud])[2:], [fmt.quiet(1, 7), 1])

    def test_flags_together(self):
        for f, fmt, r in self.each():
            tiny = fmt.bits(Fraction(1, 1 << (fmt.p + 1)))
            self.assertEqual(two(f, ADD, r, [fmt.inf(0), fmt.one(0)], [fmt.inf(1), tiny])[3], 33)


class Products(EveryFormat):
    def test_infinite_stays_infinite(self):
        for f, fmt, r in self.each():
            for parts in itertools.product(kinds_of_floats(fmt), repeat=4):
                x, y = list(parts[:2]), list(parts[2:])
                if is_infinite(fmt, x) and not is_zero(fmt, y) and not is_none(fmt, y):
                    if f == 0 or r == NEAR:
                        self.assertTrue(is_infinite(fmt, two(f, MUL, r, x, y)[1:3]), (f, r, x, y))
                        self.assertTrue(is_infinite(fmt, two(f, MUL, r, y, x)[1:3]), (f, r, y, x))

    def test_without_recovery(self):
        for f, fmt, r in self.each():
            inf, unity, empty = fmt.inf(0), fmt.one(0), fmt.empty()
            # re is inf - inf, but im is infinite.
            self.assertEqual(two(f, MUL, r, [inf, inf], [unity, unity]), [0, empty, inf, 1])
            self.assertEqual(two(f, MUL, r, [inf, unity], [fmt.bits(2), fmt.bits(3)]), [0, inf, inf, 0])

    def test_infinite_by_zero_is_lost_and_stays_so(self):
        for f, fmt, r in self.each():
            # Recovered, it's inf times 0 in both parts; the flag isn't told then.
            self.assertEqual(two(f, MUL, r, [fmt.inf(0), 0], [0, 0]), [0, fmt.empty(), fmt.empty(), 0])
            self.assertEqual(two(f, MUL, r, [fmt.inf(0), fmt.quiet(0, 3)], [0, 0]),
                             [0, fmt.empty(), fmt.empty(), 0])

    def test_recovered_where_x_is_infinite(self):
        for f, fmt, r in self.each():
            inf, minus, loud = fmt.inf(0), fmt.inf(1), fmt.loud(1, 2)
            self.assertEqual(two(f, MUL, r, [inf, loud], [fmt.bits(2), fmt.bits(-3)]), [0, inf, minus, 0])
            self.assertEqual(two(f, MUL, r, [fmt.quiet(), minus], [fmt.bits(2), fmt.bits(-3)]), [0, minus, minus, 0])
            self.assertEqual(two(f, MUL, r, [inf, 0], [fmt.bits(2), fmt.quiet()]), [0, inf, fmt.empty(), 0])
            self.assertEqual(two(f, MUL, r, [inf, inf], [fmt.bits(2), fmt.quiet()]), [0, inf, inf, 0])

    def test_recovered_where_y_is_infinite(self):
        for f, fmt, r in self.each():
            inf, minus = fmt.inf(0), fmt.inf(1)
            self.assertEqual(two(f, MUL, r, [fmt.bits(2), fmt.bits(-3)], [inf, fmt.loud()]), [0, inf, minus, 0])
            self.assertEqual(two(f, MUL, r, [fmt.quiet(), fmt.bits(-3)], [minus, inf]), [0, inf, inf, 0])

    def test_recovered_where_both_are_infinite(self):
        for f, fmt, r in self.each():
            inf, minus, none = fmt.inf(0), fmt.inf(1), fmt.quiet(0, 1)
            self.assertEqual(two(f, MUL, r, [inf, none], [none, inf]), [0, fmt.empty(), inf, 0])
            self.assertEqual(two(f, MUL, r, [inf, inf], [0, inf]), [0, minus, inf, 0])
            self.assertEqual(two(f, MUL, r, [none, inf], [none, inf]), [0, minus, fmt.empty(), 0])

    def test_recovered_where_only_a_product_is_infinite(self):
        for f, fmt, r in self.each():
            x, y = [fmt.largest(0), fmt.quiet(0, 1)], [fmt.largest(0), fmt.largest(0)]
            if r in (NEAR, UPWARD):
                self.assertEqual(two(f, MUL, r, x, y), [0, fmt.inf(0), fmt.inf(0), 40])
            else:
                # These roundings make no infinite one here, so nothing is recovered.
                self.assertEqual(two(f, MUL, r, x, y), [0, fmt.quiet(0, 1), fmt.quiet(0, 1), 40])
            x = [fmt.loud(1, 1), fmt.largest(1)]
            if r in (NEAR, DOWN):
                self.assertEqual(two(f, MUL, r, x, y), [0, fmt.inf(0), fmt.inf(1), 40])
            elif r == CUT:
                self.assertEqual(two(f, MUL, r, x, y), [0, fmt.quiet(1, 1), fmt.quiet(1, 1), 41])

    def test_other_flags_stay_when_recovered(self):
        for f, fmt, r in self.each():
            small = fmt.make(0, 0, 1)
            answer = two(f, MUL, r, [fmt.inf(0), fmt.loud()], [small, fmt.one(0)])
            self.assertEqual(answer, [0, fmt.inf(0), fmt.inf(0), 2])

    def test_none(self):
        for f, fmt, r in self.each():
            quiet, loud = fmt.quiet(0, 4), fmt.loud(0, 2)
            self.assertEqual(two(f, MUL, r, [quiet, fmt.one(0)], [fmt.one(0), loud]),
                             [0, quiet, quiet, 1])
            self.assertEqual(two(f, MUL, r, [0, 0], [loud, 0]), [0, fmt.made_quiet(loud), fmt.made_quiet(loud), 1])
            self.assertEqual(two(f, MUL, r, [0, 0], [0, quiet]), [0, quiet, quiet, 0])


class Quotients(EveryFormat):
    def test_none_comes_before_all_else(self):
        for f, fmt, r in self.each():
            quiet, loud = fmt.quiet(1, 4), fmt.loud(0, 2)
            calm = fmt.made_quiet(loud)
            self.assertEqual(two(f, DIV, r, [fmt.one(0), quiet], [0, 0]), [0, quiet, quiet, 0])
            self.assertEqual(two(f, DIV, r, [0, 0], [0, loud]), [0, calm, calm, 1])
            self.assertEqual(two(f, DIV, r, [fmt.inf(0), quiet], [loud, 0]), [0, quiet, quiet, 1])
            self.assertEqual(two(f, DIV, r, [loud, fmt.inf(0)], [quiet, 0]), [0, calm, calm, 1])
            self.assertEqual(two(f, DIV, r, [quiet, 0], [loud, fmt.inf(0)]), [0, quiet, quiet, 1])
            for place in range(4):
                parts = [fmt.one(0)] * 4
                parts[place] = quiet
                self.assertEqual(two(f, DIV, r, parts[:2], parts[2:]), [0, quiet, quiet, 0])

    def test_by_zero(self):
        for f, fmt, r in self.each():
            for s, t in itertools.product((0, 1), repeat=2):
                zero = [fmt.zero(s), fmt.zero(t)]
                self.assertEqual(two(f, DIV, r, [fmt.bits(2), fmt.bits(-3)], zero),
                                 [0, fmt.inf(s), fmt.inf(1 - s), 4])
                self.assertEqual(two(f, DIV, r, [fmt.zero(1), fmt.bits(-3)], zero),
                                 [0, fmt.empty(), fmt.inf(1 - s), 4])
                self.assertEqual(two(f, DIV, r, [fmt.inf(1), fmt.bits(3)], zero), [0, fmt.inf(1 - s), fmt.inf(s), 0])
                self.assertEqual(two(f, DIV, r, [fmt.inf(1), fmt.loud(0, 1)], zero),
                                 [0, fmt.inf(1 - s), fmt.quiet(0, 1), 0])
                self.assertEqual(two(f, DIV, r, [fmt.zero(t), fmt.zero(s)], zero), [0, fmt.empty(), fmt.empty(), 1])

    def test_infinite_by_finite(self):
        for f, fmt, r in self.each():
            inf, minus = fmt.inf(0), fmt.inf(1)
            y = [fmt.bits(2), fmt.bits(-3)]
            self.assertEqual(two(f, DIV, r, [inf, fmt.largest(0)], y), [0, inf, inf, 0])
            self.assertEqual(two(f, DIV, r, [0, minus], y), [0, inf, minus, 0])
            self.assertEqual(two(f, DIV, r, [inf, minus], y), [0, inf, inf, 0])
            self.assertEqual(two(f, DIV, r, [inf, fmt.loud()], y), [0, inf, inf, 0])
            self.assertEqual(two(f, DIV, r, [inf, inf], [fmt.one(0), fmt.one(0)]), [0, inf, fmt.empty(), 0])
            # The direction's parts may overflow on the way: the quotient is infinite all the same.
            self.assertEqual(two(f, DIV, r, [inf, inf], [fmt.largest(0), fmt.largest(1)]),
                             [0, fmt.empty(), inf, 0])

    def test_finite_by_infinite(self):
        for f, fmt, r in self.each():
            inf, minus = fmt.inf(0), fmt.inf(1)
            x = [fmt.bits(2), fmt.bits(3)]
            self.assertEqual(two(f, DIV, r, x, [inf, 0]), [0, fmt.zero(0), fmt.zero(0), 0])
            self.assertEqual(two(f, DIV, r, x, [minus, 0]), [0, fmt.zero(1), fmt.zero(1), 0])
            self.assertEqual(two(f, DIV, r, x, [fmt.loud(), inf]), [0, fmt.zero(0), fmt.zero(1), 0])
            self.assertEqual(two(f, DIV, r, x, [minus, minus]), [0, fmt.zero(1), fmt.zero(1), 0])
            self.assertEqual(two(f, DIV, r, x, [inf, inf]), [0, fmt.zero(0), fmt.zero(0), 0])

    def test_zero_by_infinite(self):
        for f, fmt, r in self.each():
            mixed = fmt.zero(1 if r == DOWN else 0)
            self.assertEqual(two(f, DIV, r, [0, 0], [fmt.inf(0), 0]), [0, fmt.zero(0), mixed, 0])
            self.assertEqual(two(f, DIV, r, [0, 0], [fmt.inf(1), 0]), [0, mixed, fmt.zero(1), 0])

    def test_numerator_that_overflows_in_its_steps(self):
        for f, fmt, r in self.each():
            large = fmt.largest(0)
            # By near and up the sum is infinite, and 0 times that is invalid, without its flag.
            re = fmt.empty() if r in (NEAR, UPWARD) else fmt.zero(0)
            self.assertEqual(two(f, DIV, r, [large, large], [fmt.inf(0), fmt.inf(0)])[1], re)
            self.assertEqual(two(f, DIV, r, [large, large], [fmt.inf(0), fmt.inf(0)])[3], 0)

    def test_infinite_by_infinite(self):
        for f, fmt, r in self.each():
            for x in ([fmt.inf(0), 0], [fmt.one(1), fmt.inf(1)], [fmt.inf(0), fmt.loud()]):
                for y in ([fmt.inf(1), fmt.inf(0)], [fmt.quiet(), fmt.inf(0)]):
                    self.assertEqual(two(f, DIV, r, x, y), [0, fmt.empty(), fmt.empty(), 1])


if __name__ == "__main__":
    unittest.main()
