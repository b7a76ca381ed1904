"""conj, proj, times i and times -i: signs alone, no flags, of every kind."""

import itertools
import unittest

from oncerounded.complexes import one
from tests.oracle import (BY_NUMBER, CONJ, FORMATS, PROJ, ROUNDINGS, TIMES_I, TIMES_MINUS_I, is_infinite,
                          kinds_of_floats)


class Turns(unittest.TestCase):
    def each(self):
        for f in FORMATS:
            fmt = BY_NUMBER[f]
            for a, b in itertools.product(kinds_of_floats(fmt), repeat=2):
                for r in ROUNDINGS:
                    yield f, fmt, r, a, b

    def test_conj(self):
        for f, fmt, r, a, b in self.each():
            self.assertEqual(one(f, CONJ, r, [a, b]), [0, a, b ^ (1 << (fmt.width - 1)), 0])

    def test_times_i(self):
        for f, fmt, r, a, b in self.each():
            self.assertEqual(one(f, TIMES_I, r, [a, b]), [0, b ^ (1 << (fmt.width - 1)), a, 0])

    def test_times_minus_i(self):
        for f, fmt, r, a, b in self.each():
            self.assertEqual(one(f, TIMES_MINUS_I, r, [a, b]), [0, b, a ^ (1 << (fmt.width - 1)), 0])

    def test_proj(self):
        for f, fmt, r, a, b in self.each():
            expected = [fmt.inf(0), fmt.zero(fmt.sign(b))] if is_infinite(fmt, [a, b]) else [a, b]
            self.assertEqual(one(f, PROJ, r, [a, b]), [0] + expected + [0])

    def test_proj_written_out(self):
        for x, re, im in (([0x7C00, 0x3C00], 0x7C00, 0), ([0xFC00, 0xBC00], 0x7C00, 0x8000),
                          ([0x3C00, 0xFC00], 0x7C00, 0x8000), ([0x7D01, 0x7C00], 0x7C00, 0),
                          ([0x7C00, 0xFD01], 0x7C00, 0x8000), ([0xFD01, 0x8000], 0xFD01, 0x8000),
                          ([0x7BFF, 0x8001], 0x7BFF, 0x8001)):
            self.assertEqual(one(0, PROJ, 0, x), [0, re, im, 0])

    def test_turns_written_out(self):
        self.assertEqual(one(0, CONJ, 0, [0x7D01, 0xFD02]), [0, 0x7D01, 0x7D02, 0])
        self.assertEqual(one(0, TIMES_I, 0, [0x0000, 0x0000]), [0, 0x8000, 0x0000, 0])
        self.assertEqual(one(0, TIMES_I, 0, [0xFD01, 0x3C00]), [0, 0xBC00, 0xFD01, 0])
        self.assertEqual(one(0, TIMES_MINUS_I, 0, [0x0001, 0x8000]), [0, 0x8000, 0x8001, 0])


if __name__ == "__main__":
    unittest.main()
