"""Z2 (no order of the two; conj goes through; four times i) and Z5, held over many numbers."""

import itertools
import random
import unittest

from oncerounded.complexes import one, two
from tests.oracle import (ADD, BY_NUMBER, CONJ, CUT, DIV, DOWN, FORMATS, MUL, NEAR, ROUNDINGS, SQRT, SUB, TIMES_I,
                          TIMES_MINUS_I, UPWARD, kinds_of_floats, random_finite)

MIRRORED = {NEAR: NEAR, DOWN: UPWARD, UPWARD: DOWN, CUT: CUT}


def pairs(seed, how_many):
    source = random.Random(seed)
    for f in FORMATS:
        fmt = BY_NUMBER[f]
        finite = [bits for bits in kinds_of_floats(fmt) if fmt.finite(bits)]
        for a, b, c, d in itertools.product(finite, repeat=4):
            yield f, fmt, [a, b], [c, d]
        for times in range(how_many):
            spread = source.choice((None, 0, 2, fmt.p))
            parts = [random_finite(fmt, source, spread) for place in range(4)]
            yield f, fmt, parts[:2], parts[2:]


class Order(unittest.TestCase):
    def test_of_finite_ones(self):
        for f, fmt, x, y in pairs(5, 300):
            for r in ROUNDINGS:
                self.assertEqual(two(f, MUL, r, x, y), two(f, MUL, r, y, x))
                self.assertEqual(two(f, ADD, r, x, y), two(f, ADD, r, y, x))


class Conjugates(unittest.TestCase):
    def conj(self, f, x):
        return one(f, CONJ, NEAR, x)[1:3]

    def check(self, fmt, answer, by_re, by_im):
        """The answer's parts are those of the conjugates' result, im turned; an exact 0's sign goes by other words."""
        self.assertEqual(answer[1], by_re[1])
        if fmt.kind(answer[2]) == "zero":
            self.assertEqual(fmt.kind(by_im[2]), "zero")
        else:
            self.assertEqual(answer[2], fmt.turned(by_im[2]))

    def test_of_two(self):
        for f, fmt, x, y in pairs(6, 150):
            u, v = self.conj(f, x), self.conj(f, y)
            for operation in (ADD, SUB, MUL, DIV):
                for r in ROUNDINGS:
                    if operation == DIV and not any(fmt.value(bits) for bits in y):
                        continue
                    self.check(fmt, two(f, operation, r, x, y), two(f, operation, r, u, v),
                               two(f, operation, MIRRORED[r], u, v))

    def test_of_roots(self):
        for f, fmt, x, unused in pairs(7, 100):
            for r in ROUNDINGS:
                answer = one(f, SQRT, r, x)
                self.assertEqual(answer[1], one(f, SQRT, r, self.conj(f, x))[1])
                self.assertEqual(answer[2], fmt.turned(one(f, SQRT, MIRRORED[r], self.conj(f, x))[2]))


class TimesI(unittest.TestCase):
    def test_four_times_is_itself(self):
        for f in FORMATS:
            for x in itertools.product(kinds_of_floats(BY_NUMBER[f]), repeat=2):
                for operation in (TIMES_I, TIMES_MINUS_I):
                    y = list(x)
                    for times in range(4):
                        y = one(f, operation, times, y)[1:3]
                    self.assertEqual(y, list(x))

    def test_there_and_back(self):
        for f in FORMATS:
            for x in itertools.product(kinds_of_floats(BY_NUMBER[f]), repeat=2):
                there = one(f, TIMES_I, NEAR, list(x))[1:3]
                self.assertEqual(one(f, TIMES_MINUS_I, NEAR, there)[1:3], list(x))


if __name__ == "__main__":
    unittest.main()
