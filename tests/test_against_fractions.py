"""Z1 and MAIN: every answer, flags too, against the document's words reckoned with fractions."""

import itertools
import random
import unittest

from oncerounded.complexes import one, two
from tests import oracle


class AgainstFractions(unittest.TestCase):
    def check_two(self, f, operation, r, x, y):
        self.assertEqual(two(f, operation, r, x, y), oracle.two(f, operation, r, x, y), (f, operation, r, x, y))

    def check_one(self, f, operation, r, x):
        self.assertEqual(one(f, operation, r, x), oracle.one(f, operation, r, x), (f, operation, r, x))

    def test_two_of_finite_ones(self):
        source = random.Random(11)
        for f in oracle.FORMATS:
            fmt = oracle.BY_NUMBER[f]
            for times in range(900):
                spread = source.choice((None, 0, 1, 3, fmt.p, 2 * fmt.p))
                parts = [oracle.random_finite(fmt, source, spread) for place in range(4)]
                for operation in range(4):
                    self.check_two(f, operation, times % 4, parts[:2], parts[2:])

    def test_two_at_the_exponents_ends(self):
        source = random.Random(12)
        for f in oracle.FORMATS:
            fmt = oracle.BY_NUMBER[f]
            for times in range(900):
                ends = (0, 1, 2, fmt.emax // 2, fmt.emax, fmt.emax + fmt.emax // 2, fmt.all_ones - 2, fmt.all_ones - 1)
                parts = [fmt.make(source.getrandbits(1), source.choice(ends), source.getrandbits(fmt.fraction_bits))
                         for place in range(4)]
                for operation in range(4):
                    self.check_two(f, operation, times % 4, parts[:2], parts[2:])

    def test_two_that_nearly_cancel(self):
        source = random.Random(13)
        for f in oracle.FORMATS:
            fmt = oracle.BY_NUMBER[f]
            for times in range(400):
                a, c = (oracle.random_finite(fmt, source, 2) for place in range(2))
                b, d = c + source.randint(-2, 2), a + source.randint(-2, 2)
                for y in ([c, d], [d, c]):
                    for operation in (oracle.MUL, oracle.DIV, oracle.SUB):
                        self.check_two(f, operation, times % 4, [a, b], y)

    def test_two_of_every_kind(self):
        for f in oracle.FORMATS:
            kinds = oracle.kinds_of_floats(oracle.BY_NUMBER[f])
            for place, parts in enumerate(itertools.product(kinds, repeat=4)):
                x, y = list(parts[:2]), list(parts[2:])
                for operation in (oracle.MUL, oracle.DIV):
                    self.check_two(f, operation, (place + operation) % 4, x, y)
            for a, b in itertools.product(kinds, repeat=2):
                for r in oracle.ROUNDINGS:
                    for operation in (oracle.ADD, oracle.SUB):
                        self.check_two(f, operation, r, [a, b], [b, a])
                        self.check_two(f, operation, r, [a, a], [a, b])

    def test_one_of_finite_ones(self):
        source = random.Random(14)
        for f in oracle.FORMATS:
            fmt = oracle.BY_NUMBER[f]
            for times in range(900):
                spread = source.choice((None, 0, 1, 3, fmt.p, 2 * fmt.p))
                x = [oracle.random_finite(fmt, source, spread) for place in range(2)]
                for operation in range(5):
                    self.check_one(f, operation, times % 4, x)

    def test_one_of_every_kind(self):
        for f in oracle.FORMATS:
            kinds = oracle.kinds_of_floats(oracle.BY_NUMBER[f])
            for x in itertools.product(kinds, repeat=2):
                for operation in range(5):
                    for r in oracle.ROUNDINGS:
                        self.check_one(f, operation, r, list(x))

    def test_sums_and_products_of_doubles_agree_with_python(self):
        source = random.Random(15)
        fmt = oracle.DOUBLE
        for times in range(500):
            a, b = (oracle.random_finite(fmt, source, 40) for place in range(2))
            left, right = float(fmt.value(a)), float(fmt.value(b))
            self.assertEqual(float(fmt.value(two(2, oracle.ADD, 0, [a, 0], [b, 0])[1])), left + right)
            self.assertEqual(float(fmt.value(two(2, oracle.MUL, 0, [a, 0], [b, 0])[1])), left * right)
            self.assertEqual(float(fmt.value(two(2, oracle.DIV, 0, [a, 0], [b, 0])[1])), left / right)


if __name__ == "__main__":
    unittest.main()
