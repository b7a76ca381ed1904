"""Exact zeros as parts, and their signs."""

import itertools
import unittest

from oncerounded.complexes import one, two
from tests.oracle import ADD, BY_NUMBER, DIV, DOWN, FORMATS, MUL, ROUNDINGS, SQRT, SUB


def expected(fmt, r, signs):
    if signs == (0, 0):
        return fmt.zero(0)
    if signs == (1, 1):
        return fmt.zero(1)
    return fmt.zero(1) if r == DOWN else fmt.zero(0)


class Zeros(unittest.TestCase):
    def each(self):
        for f in FORMATS:
            for r in ROUNDINGS:
                yield f, BY_NUMBER[f], r

    def test_sums_of_zeros(self):
        for f, fmt, r in self.each():
            for s, t in itertools.product((0, 1), repeat=2):
                x, y = [fmt.zero(s), fmt.zero(t)], [fmt.zero(t), fmt.zero(t)]
                self.assertEqual(two(f, ADD, r, x, y), [0, expected(fmt, r, (s, t)), fmt.zero(t), 0])
                self.assertEqual(two(f, SUB, r, x, y),
                                 [0, expected(fmt, r, (s, 1 - t)), expected(fmt, r, (0, 1)), 0])

    def test_what_cancels(self):
        for f, fmt, r in self.each():
            x, minus_x = [fmt.bits(3), fmt.bits(-5)], [fmt.bits(-3), fmt.bits(5)]
            zero = expected(fmt, r, (0, 1))
            self.assertEqual(two(f, ADD, r, x, minus_x), [0, zero, zero, 0])
            self.assertEqual(two(f, SUB, r, x, x), [0, zero, zero, 0])
            # (1 + i)(1 + i) is 2i; (1 + i)(1 - i) is 2.
            u, v = [fmt.one(0), fmt.one(0)], [fmt.one(0), fmt.one(1)]
            self.assertEqual(two(f, MUL, r, u, u), [0, zero, fmt.bits(2), 0])
            self.assertEqual(two(f, MUL, r, u, v), [0, fmt.bits(2), zero, 0])
            self.assertEqual(two(f, DIV, r, u, u), [0, fmt.one(0), zero, 0])
            self.assertEqual(two(f, DIV, r, u, v), [0, zero, fmt.one(0), 0])

    def test_products_of_all_signs(self):
        for f, fmt, r in self.each():
            for a, b, c, d in itertools.product((0, 1), repeat=4):
                x, y = [fmt.zero(a), fmt.zero(b)], [fmt.one(c), fmt.one(d)]
                self.assertEqual(two(f, MUL, r, x, y),
                                 [0, expected(fmt, r, (a ^ c, 1 ^ b ^ d)), expected(fmt, r, (a ^ d, b ^ c)), 0])
                self.assertEqual(two(f, MUL, r, y, x), two(f, MUL, r, x, y))

    def test_quotients_of_all_signs(self):
        for f, fmt, r in self.each():
            for a, b, c, d in itertools.product((0, 1), repeat=4):
                x, y = [fmt.zero(a), fmt.zero(b)], [fmt.bits(-3 if c else 3), fmt.bits(-5 if d else 5)]
                self.assertEqual(two(f, DIV, r, x, y),
                                 [0, expected(fmt, r, (a ^ c, b ^ d)), expected(fmt, r, (b ^ c, 1 ^ a ^ d)), 0])

    def test_one_zero_part_beside_what_is_none(self):
        # 2 times 3: im's terms are 2 (+-0) and (+-0) 3, re's rest is (+-0)(+-0).
        for f, fmt, r in self.each():
            for b, d in itertools.product((0, 1), repeat=2):
                x, y = [fmt.bits(2), fmt.zero(b)], [fmt.bits(3), fmt.zero(d)]
                self.assertEqual(two(f, MUL, r, x, y), [0, fmt.bits(6), expected(fmt, r, (d, b)), 0])
                x = [fmt.bits(6), fmt.zero(b)]
                self.assertEqual(two(f, DIV, r, x, y), [0, fmt.bits(2), expected(fmt, r, (b, 1 ^ d)), 0])

    def test_roots(self):
        for f, fmt, r in self.each():
            for s, t in itertools.product((0, 1), repeat=2):
                self.assertEqual(one(f, SQRT, r, [fmt.zero(s), fmt.zero(t)]), [0, fmt.zero(0), fmt.zero(t), 0])
            for t in (0, 1):
                self.assertEqual(one(f, SQRT, r, [fmt.bits(9), fmt.zero(t)]), [0, fmt.bits(3), fmt.zero(t), 0])
                self.assertEqual(one(f, SQRT, r, [fmt.bits(-9), fmt.zero(t)]),
                                 [0, fmt.zero(0), fmt.bits(-3 if t else 3), 0])


if __name__ == "__main__":
    unittest.main()
