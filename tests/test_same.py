"""same: equal by value, part by part; flag 1 of a loud part, no other."""

import itertools
import random
import unittest

from oncerounded.complexes import same
from tests import oracle
from tests.oracle import BY_NUMBER, FORMATS, kinds_of_floats, random_finite


class Same(unittest.TestCase):
    def each(self):
        return [(f, BY_NUMBER[f]) for f in FORMATS]

    def test_written_out(self):
        self.assertEqual(same(0, [0x3C00, 0x4000], [0x3C00, 0x4000]), [0, 1, 0])
        self.assertEqual(same(0, [0x3C00, 0x4000], [0x3C00, 0x4001]), [0, 0, 0])
        self.assertEqual(same(0, [0x3C00, 0x4000], [0x3C01, 0x4000]), [0, 0, 0])
        self.assertEqual(same(0, [0x3C00, 0x4000], [0x4000, 0x3C00]), [0, 0, 0])
        self.assertEqual(same(0, [0x3C00, 0x4000], [0xBC00, 0x4000]), [0, 0, 0])
        self.assertEqual(same(0, [0x3C00, 0x4000], [0x3C00, 0xC000]), [0, 0, 0])

    def test_zeros(self):
        for f, fmt in self.each():
            for signs in itertools.product((0, 1), repeat=4):
                a, b, c, d = (fmt.zero(s) for s in signs)
                self.assertEqual(same(f, [a, b], [c, d]), [0, 1, 0])
                self.assertEqual(same(f, [a, fmt.one(0)], [c, fmt.one(0)]), [0, 1, 0])
                self.assertEqual(same(f, [a, fmt.one(0)], [c, d]), [0, 0, 0])
                self.assertEqual(same(f, [a, b], [fmt.make(signs[2], 0, 1), d]), [0, 0, 0])

    def test_small_ones_have_no_flag(self):
        for f, fmt in self.each():
            self.assertEqual(same(f, [1, fmt.make(1, 0, 2)], [1, fmt.make(1, 0, 2)]), [0, 1, 0])
            self.assertEqual(same(f, [1, 0], [fmt.make(1, 0, 1), 0]), [0, 0, 0])

    def test_infinite_ones(self):
        for f, fmt in self.each():
            for s, t in itertools.product((0, 1), repeat=2):
                x = [fmt.inf(s), fmt.inf(t)]
                self.assertEqual(same(f, x, list(x)), [0, 1, 0])
                self.assertEqual(same(f, x, [fmt.inf(1 - s), fmt.inf(t)]), [0, 0, 0])
                self.assertEqual(same(f, x, [fmt.inf(s), fmt.inf(1 - t)]), [0, 0, 0])
                self.assertEqual(same(f, [fmt.inf(s), fmt.one(t)], [fmt.inf(s), fmt.one(t)]), [0, 1, 0])
                self.assertEqual(same(f, [fmt.inf(s), fmt.one(t)], [fmt.largest(s), fmt.one(t)]), [0, 0, 0])

    def test_no_numbers_in_each_part(self):
        for f, fmt in self.each():
            for bits, flag in ((fmt.quiet(0, 5), 0), (fmt.quiet(1), 0), (fmt.loud(0, 1), 1), (fmt.loud(1, 3), 1)):
                for place in range(4):
                    parts = [fmt.one(0)] * 4
                    parts[place] = bits
                    self.assertEqual(same(f, parts[:2], parts[2:]), [0, 0, flag])
                for other in (0, fmt.one(0), fmt.inf(0), bits):
                    self.assertEqual(same(f, [bits, other], [bits, other]), [0, 0, flag])
                    self.assertEqual(same(f, [other, bits], [other, bits]), [0, 0, flag])
                    # The flag doesn't hang on what the other parts are.
                    self.assertEqual(same(f, [0, bits], [fmt.one(0), other]), [0, 0, flag])

    def test_of_every_kind(self):
        for f, fmt in self.each():
            kinds = kinds_of_floats(fmt)
            for parts in itertools.product(kinds, repeat=4):
                x, y = list(parts[:2]), list(parts[2:])
                self.assertEqual(same(f, x, y), oracle.same(f, x, y))

    def test_of_near_ones(self):
        source = random.Random(71)
        for f, fmt in self.each():
            for times in range(300):
                x = [random_finite(fmt, source) for place in range(2)]
                y = [max(0, bits + source.choice((-1, 0, 0, 0, 1))) for bits in x]
                self.assertEqual(same(f, x, y), oracle.same(f, x, y))
                self.assertEqual(same(f, y, x), same(f, x, y))


if __name__ == "__main__":
    unittest.main()
