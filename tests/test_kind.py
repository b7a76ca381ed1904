"""kind: 0 zero, 1 finite else, 2 infinite, 3 none."""

import itertools
import random
import unittest

from oncerounded.complexes import kind
from tests import oracle
from tests.oracle import BY_NUMBER, FORMATS, kinds_of_floats


class Kind(unittest.TestCase):
    def each(self):
        return [(f, BY_NUMBER[f]) for f in FORMATS]

    def test_zero(self):
        for f, fmt in self.each():
            for s, t in itertools.product((0, 1), repeat=2):
                self.assertEqual(kind(f, [fmt.zero(s), fmt.zero(t)]), [0, 0, 0])

    def test_finite(self):
        for f, fmt in self.each():
            for s, other in itertools.product((0, 1), (0, fmt.zero(1), 1, fmt.one(1), fmt.largest(0))):
                for bits in (fmt.make(s, 0, 1), fmt.make(s, 1, 0), fmt.one(s), fmt.largest(s)):
                    self.assertEqual(kind(f, [bits, other]), [0, 1, 0])
                    self.assertEqual(kind(f, [other, bits]), [0, 1, 0])

    def test_infinite_whatever_the_other_is(self):
        for f, fmt in self.each():
            for s, other in itertools.product((0, 1), kinds_of_floats(fmt)):
                self.assertEqual(kind(f, [fmt.inf(s), other]), [0, 2, 0])
                self.assertEqual(kind(f, [other, fmt.inf(s)]), [0, 2, 0])

    def test_none(self):
        for f, fmt in self.each():
            for bits in (fmt.quiet(), fmt.quiet(1, 1), fmt.loud(0, 1), fmt.loud(1, 2)):
                for other in kinds_of_floats(fmt):
                    if fmt.kind(other) != "infinite":
                        self.assertEqual(kind(f, [bits, other]), [0, 3, 0])
                        self.assertEqual(kind(f, [other, bits]), [0, 3, 0])

    def test_written_out(self):
        for x, number in (([0, 0x8000], 0), ([1, 0], 1), ([0, 0x7BFF], 1), ([0x7C00, 0x7C01], 2), ([0x7E00, 0xFC00], 2),
                          ([0x7C01, 0], 3), ([0x3C00, 0xFFFF], 3)):
            self.assertEqual(kind(0, x), [0, number, 0])
        self.assertEqual(kind(1, [0x7F800000, 0]), [0, 2, 0])
        self.assertEqual(kind(1, [0x7F800001, 0]), [0, 3, 0])
        self.assertEqual(kind(2, [0x7FF0000000000000, 0]), [0, 2, 0])
        self.assertEqual(kind(2, [0x7C00, 0]), [0, 1, 0])

    def test_of_many(self):
        source = random.Random(91)
        for f, fmt in self.each():
            for times in range(500):
                x = [source.getrandbits(fmt.width) for place in range(2)]
                self.assertEqual(kind(f, x), oracle.kind(f, x))


if __name__ == "__main__":
    unittest.main()
