"""Wrong inputs, and that nothing handed in is changed, kept or printed."""

import contextlib
import copy
import io
import itertools
import unittest

from oncerounded.complexes import one, two
from tests.oracle import BY_NUMBER, FORMATS, ROUNDINGS, kinds_of_floats

HIGHEST = 18446744073709551615


class Refusals(unittest.TestCase):
    def test_formats(self):
        for f in (3, 4, 16, 64, 999999, 1000000):
            self.assertEqual(two(f, 0, 0, [0, 0], [0, 0]), [-1])
            self.assertEqual(one(f, 0, 0, [0, 0]), [-1])

    def test_operations(self):
        for f in FORMATS:
            for operation in (4, 5, 1000000):
                self.assertEqual(two(f, operation, 0, [0, 0], [0, 0]), [-1])
            for operation in (5, 6, 1000000):
                self.assertEqual(one(f, operation, 0, [0, 0]), [-1])
            self.assertEqual(one(f, 4, 0, [0, 0])[0], 0)
            self.assertEqual(two(f, 3, 0, [0, 0], [0, 0])[0], 0)

    def test_roundings(self):
        for f in FORMATS:
            for r in (4, 5, 1000000):
                for operation in range(4):
                    self.assertEqual(two(f, operation, r, [0, 0], [0, 0]), [-1])
                for operation in range(5):
                    self.assertEqual(one(f, operation, r, [0, 0]), [-1])

    def test_bits_of_two(self):
        for f, limit in ((0, 1 << 16), (1, 1 << 32)):
            for bits in (limit, limit + 1, HIGHEST):
                for place in range(4):
                    parts = [0, 0, 0, 0]
                    parts[place] = bits
                    for operation in range(4):
                        self.assertEqual(two(f, operation, 0, parts[:2], parts[2:]), [-1])

    def test_bits_of_one(self):
        for f, limit in ((0, 1 << 16), (1, 1 << 32)):
            for bits in (limit, limit + 1, HIGHEST):
                for operation in range(5):
                    self.assertEqual(one(f, operation, 0, [bits, 0]), [-1])
                    self.assertEqual(one(f, operation, 0, [0, bits]), [-1])

    def test_highest_bits_are_taken(self):
        for f, bits in ((0, 0xFFFF), (1, 0xFFFFFFFF), (2, HIGHEST)):
            for operation in range(4):
                self.assertEqual(two(f, operation, 0, [bits, bits], [bits, bits]), [0, bits, bits, 0])
            self.assertEqual(one(f, 0, 0, [bits, bits]), [0, bits, bits, 0])

    def test_several_faults(self):
        self.assertEqual(two(1000000, 1000000, 1000000, [HIGHEST, 0], [0, HIGHEST]), [-1])
        self.assertEqual(one(1000000, 1000000, 1000000, [HIGHEST, HIGHEST]), [-1])


class NothingElse(unittest.TestCase):
    def calls(self):
        for f in FORMATS:
            kinds = kinds_of_floats(BY_NUMBER[f])[::2]
            for a, b, c in itertools.product(kinds, repeat=3):
                for r in ROUNDINGS:
                    for operation in range(4):
                        yield two, (f, operation, r, [a, b], [c, a])
                    for operation in range(5):
                        yield one, (f, operation, r, [a, c])

    def test_handed_in_stays(self):
        for call, arguments in self.calls():
            before = copy.deepcopy(arguments)
            call(*arguments)
            self.assertEqual(arguments, before)
            # The same list may stand in both places.
        x = [0x3C00, 0x4000]
        self.assertEqual(two(0, 2, 0, x, x), [0, 0xC200, 0x4400, 0])
        self.assertEqual(x, [0x3C00, 0x4000])

    def test_nothing_kept_or_printed(self):
        shown = io.StringIO()
        with contextlib.redirect_stdout(shown), contextlib.redirect_stderr(shown):
            first = [call(*arguments) for call, arguments in self.calls()]
            second = [call(*arguments) for call, arguments in reversed(list(self.calls()))]
        self.assertEqual(first, second[::-1])
        self.assertEqual(shown.getvalue(), "")

    def test_answers_are_lists_of_their_own(self):
        for call, arguments in self.calls():
            answer = call(*arguments)
            self.assertIs(type(answer), list)
            self.assertEqual({type(number) for number in answer}, {int})
            self.assertEqual(len(answer), 4)
            answer.append(7)
            self.assertEqual(call(*arguments), answer[:4])


if __name__ == "__main__":
    unittest.main()
