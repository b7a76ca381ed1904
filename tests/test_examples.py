"""The document's own examples, and what it says would be wrong, with bits written out."""

import unittest
from fractions import Fraction

from oncerounded.complexes import dot, one, read, real, text, two
from tests.oracle import (ABS, ADD, BY_NUMBER, CUT, DIV, DOWN, FORMATS, MUL, NEAR, PROJ, ROUNDINGS, SINGLE, SQRT, SUB,
                          TIMES_MINUS_I, UPWARD)

INF, EMPTY, QUIET = 0x7F800000, 0xFFC00000, 0x7FC00000


def single(*values):
    return [SINGLE.bits(Fraction(value)) for value in values]


class Examples(unittest.TestCase):
    def test_product(self):
        self.assertEqual(two(1, MUL, NEAR, single(1, 2), single(3, 4)), [0, 0xC0A00000, 0x41200000, 0])

    def test_quotient(self):
        self.assertEqual(two(1, DIV, NEAR, single(1, 0), single(3, 4)), [0, 0x3DF5C28F, 0xBE23D70A, 32])

    def test_quotient_by_other_roundings(self):
        # 0.12 and 0.16 both lie above the nearest singles' sizes.
        self.assertEqual(two(1, DIV, CUT, single(1, 0), single(3, 4)), [0, 0x3DF5C28F, 0xBE23D70A, 32])
        self.assertEqual(two(1, DIV, DOWN, single(1, 0), single(3, 4)), [0, 0x3DF5C28F, 0xBE23D70B, 160])
        self.assertEqual(two(1, DIV, UPWARD, single(1, 0), single(3, 4)), [0, 0x3DF5C290, 0xBE23D70A, 160])

    def test_root_of_minus_four(self):
        self.assertEqual(one(1, SQRT, NEAR, [0xC0800000, 0x80000000]), [0, 0, 0xC0000000, 0])

    def test_root_of_three_and_four_i(self):
        self.assertEqual(one(1, SQRT, NEAR, single(3, 4)), [0, 0x40000000, 0x3F800000, 0])

    def test_size_of_three_and_four_i(self):
        for r in ROUNDINGS:
            self.assertEqual(real(1, ABS, r, single(3, 4)), [0, 0x40A00000, 0])

    def test_infinite_product(self):
        for r in ROUNDINGS:
            self.assertEqual(two(1, MUL, r, [INF, QUIET], single(1, 1)), [0, INF, INF, 0])

    def test_text(self):
        x = [SINGLE.bits(Fraction(3, 2)), SINGLE.bits(-2)]
        self.assertEqual(text(1, 0, x), [0, *b"1.5e0-2e0i"])
        self.assertEqual(read(1, NEAR, list(b"1.5e0-2e0i")), [0, *x, 0])

    def test_one_by_zero(self):
        for r in ROUNDINGS:
            self.assertEqual(two(1, DIV, r, single(1, 0), [0, 0]), [0, INF, EMPTY, 4])


class Layouts(unittest.TestCase):
    def test_the_empty_one(self):
        for f, empty in ((0, 0xFE00), (1, 0xFFC00000), (2, 0xFFF8000000000000)):
            self.assertEqual(two(f, DIV, NEAR, [0, 0], [0, 0]), [0, empty, empty, 1])

    def test_one_plus_one_and_minus_two(self):
        for f, unity, double in ((0, 0x3C00, 0x4000), (1, 0x3F800000, 0x40000000),
                                 (2, 0x3FF0000000000000, 0x4000000000000000)):
            self.assertEqual(two(f, ADD, NEAR, [unity, 0], [unity, 0]), [0, double, 0, 0])
            self.assertEqual(two(f, SUB, NEAR, [double, unity], [unity, 0]), [0, unity, unity, 0])


class WrongWouldBe(unittest.TestCase):
    def test_products_rounded_before_the_difference(self):
        for f in FORMATS:
            fmt = BY_NUMBER[f]
            u = Fraction(1, 1 << (fmt.p // 2 + 1))
            x, y = [fmt.bits(1 + u), fmt.bits(1 + 2 * u)], [fmt.bits(1 + u), fmt.bits(1)]
            for r in ROUNDINGS:
                answer = two(f, MUL, r, x, y)
                self.assertEqual(answer[1], fmt.bits(u * u))

    def test_quotient_by_the_greater_parts_way(self):
        # Both parts are exact, but d / c and what follows from it are not.
        x, y = single(-5, 10), single(3, 4)
        for r in ROUNDINGS:
            self.assertEqual(two(1, DIV, r, x, y), [0] + single(1, 2) + [0])

    def test_norm_that_overflows_or_underflows(self):
        for f in FORMATS:
            fmt = BY_NUMBER[f]
            for bits in (fmt.largest(0), fmt.make(0, 1, 0)):
                for r in ROUNDINGS:
                    self.assertEqual(two(f, DIV, r, [bits, bits], [bits, bits]),
                                     [0, fmt.one(0), fmt.zero(1 if r == DOWN else 0), 0])

    def test_abs_by_squares_that_overflow(self):
        for f in FORMATS:
            fmt = BY_NUMBER[f]
            for r in ROUNDINGS:
                self.assertEqual(real(f, ABS, r, [fmt.largest(1), 0]), [0, fmt.largest(0), 0])

    def test_root_by_the_difference(self):
        # m - a is 0 in doubles, yet im is b / 2 within its last digit.
        fmt = BY_NUMBER[2]
        tiny = Fraction(1, 1 << 400)
        self.assertEqual(one(2, SQRT, NEAR, [fmt.one(0), fmt.bits(tiny)]),
                         [0, fmt.one(0), fmt.bits(tiny / 2), 160])
        self.assertEqual(one(2, SQRT, CUT, [fmt.one(0), fmt.bits(-tiny)]),
                         [0, fmt.one(0), fmt.bits(-tiny / 2) - 1, 32])

    def test_minus_zero_of_an_exact_zero_by_near(self):
        self.assertEqual(two(1, SUB, NEAR, single(1, 1), single(1, 1)), [0, 0, 0, 0])
        self.assertEqual(two(1, MUL, NEAR, single(1, 1), single(1, 1)), [0, 0, 0x40000000, 0])

    def test_infinite_times_a_half_infinite_one(self):
        self.assertEqual(two(1, MUL, NEAR, [INF, 0], [0, INF])[2], INF)
        self.assertEqual(two(1, MUL, NEAR, [INF, INF], [0, INF]), [0, 0xFF800000, INF, 0])

    def test_flags_of_a_part_lost(self):
        largest, third = SINGLE.largest(0), SINGLE.bits(Fraction(1, 8))
        self.assertEqual(two(1, ADD, NEAR, [largest, third], [largest, third])[3], 40)
        self.assertEqual(two(1, ADD, NEAR, [third, largest], [third, largest])[3], 40)

    def test_dot_in_steps(self):
        # The largest one's square comes and goes; in steps it would stay infinite, or take the 1 with it.
        for f in FORMATS:
            fmt = BY_NUMBER[f]
            great, unity = fmt.largest(0), fmt.one(0)
            pairs = [great, 0, great, 0, unity, 0, unity, 0, fmt.turned(great), 0, great, 0]
            for r in ROUNDINGS:
                self.assertEqual(dot(f, r, 0, [0, 0], pairs)[1::2], [unity, 0])

    def test_projection_of_none_and_infinite(self):
        self.assertEqual(one(1, PROJ, NEAR, [QUIET, 0xFF800000]), [0, INF, 0x80000000, 0])

    def test_the_imaginary_parts_sign_twice(self):
        self.assertEqual(text(1, 0, single(1, -2)), [0, *b"1e0-2e0i"])
        self.assertEqual(text(1, 1, [0, 0x80000000]), [0, *b"0x0p0-0x0p0i"])
        self.assertEqual(read(1, NEAR, list(b"1+-2i")), [-2, 2])

    def test_times_minus_i_by_a_product(self):
        # A product would make -0 of both parts, or tell flags of the loud one.
        self.assertEqual(one(1, TIMES_MINUS_I, NEAR, [0, 0]), [0, 0, 0x80000000, 0])
        self.assertEqual(one(1, TIMES_MINUS_I, NEAR, [0x7F800001, INF]), [0, INF, 0xFF800001, 0])


if __name__ == "__main__":
    unittest.main()
