"""fused: x y + z, each part rounded once; else mul, then add, their flags together."""

import itertools
import random
import unittest
from fractions import Fraction

from oncerounded.complexes import fused, one, two
from tests import oracle
from tests.oracle import (ADD, BY_NUMBER, CONJ, CUT, DOWN, FORMATS, MUL, NEAR, ROUNDINGS, UPWARD, is_infinite,
                          kinds_of_floats, power_of_two, random_finite)

MIRRORED = {NEAR: NEAR, DOWN: UPWARD, UPWARD: DOWN, CUT: CUT}


class EveryFormat(unittest.TestCase):
    def each(self):
        for f in FORMATS:
            for r in ROUNDINGS:
                yield f, BY_NUMBER[f], r

    def check(self, f, x, y, z, expected):
        """expected: for each rounding the real part and the flags."""
        for r in ROUNDINGS:
            answer = fused(f, r, x, y, z)
            with self.subTest(f=f, r=r):
                self.assertEqual((answer[0], answer[1], answer[3]), (0,) + expected[r])


class Ordinary(EveryFormat):
    def test_written_out(self):
        # (1 + 2i)(3 + 4i) + (1 + 1i) is -4 + 11i.
        self.assertEqual(fused(1, NEAR, [0x3F800000, 0x40000000], [0x40400000, 0x40800000], [0x3F800000, 0x3F800000]),
                         [0, 0xC0800000, 0x41300000, 0])
        self.assertEqual(fused(0, NEAR, [0x3C00, 0x4000], [0x4200, 0x4400], [0x3C00, 0x3C00]),
                         [0, 0xC400, 0x4980, 0])

    def test_of_whole_numbers(self):
        for f, fmt, r in self.each():
            for a, b, c, d, e, g in ((1, 2, 3, 4, 7, -3), (-5, 2, 3, -4, 1, 1), (6, 7, -8, 9, 100, -200)):
                answer = fused(f, r, [fmt.bits(a), fmt.bits(b)], [fmt.bits(c), fmt.bits(d)],
                               [fmt.bits(e), fmt.bits(g)])
                self.assertEqual(answer, [0, fmt.bits(a * c - b * d + e), fmt.bits(a * d + b * c + g), 0])

    def test_z_zero_is_the_product(self):
        source = random.Random(41)
        for f, fmt, r in self.each():
            for times in range(40):
                parts = [random_finite(fmt, source, 3) for place in range(4)]
                self.assertEqual(fused(f, r, parts[:2], parts[2:], [0, 0])[:3], two(f, MUL, r, parts[:2], parts[2:])[:3])


class Cancelling(EveryFormat):
    def test_what_the_rounded_product_lost(self):
        for f, fmt, r in self.each():
            u = power_of_two(1 - fmt.p)
            # (1 + u)(1 + u) - (1 + 2u) is u u.
            z = [fmt.bits(-1 - 2 * u), 0]
            self.assertEqual(fused(f, r, [fmt.bits(1 + u), 0], [fmt.bits(1 + u), 0], z),
                             [0, fmt.bits(u * u), 0, 0])
            # The same in im: (1 + u) (1 + u) i - (1 + 2u) i.
            self.assertEqual(fused(f, r, [fmt.bits(1 + u), 0], [0, fmt.bits(1 + u)], [0, z[0]])[2], fmt.bits(u * u))

    def test_to_the_last_digit(self):
        source = random.Random(42)
        for f, fmt, r in self.each():
            for times in range(60):
                parts = [random_finite(fmt, source, 1) for place in range(4)]
                told = two(f, MUL, times % 4, parts[:2], parts[2:])
                z = [fmt.turned(told[1]), fmt.turned(told[2])]
                self.assertEqual(fused(f, r, parts[:2], parts[2:], z), oracle.fused(f, r, parts[:2], parts[2:], z))

    def test_a_product_that_overflows_alone(self):
        for f, fmt, r in self.each():
            x, y, z = [fmt.largest(0), 0], [fmt.bits(2), 0], [fmt.largest(1), 0]
            self.assertEqual(fused(f, r, x, y, z), [0, fmt.largest(0), 0, 0])
            self.assertEqual(fused(f, r, [0, fmt.largest(0)], y, [0, fmt.largest(1)])[2:], [fmt.largest(0), 0])

    def test_a_product_that_underflows_alone(self):
        for f, fmt in [(f, BY_NUMBER[f]) for f in FORMATS]:
            # 1 and a quarter of the smallest: only up sees it.
            lowest = [fmt.make(0, 1, 0), 0]
            unity = [fmt.one(0), 0]
            self.check(f, lowest, lowest, unity, {NEAR: (fmt.one(0), 32), DOWN: (fmt.one(0), 32),
                                                  UPWARD: (fmt.one(0) + 1, 160), CUT: (fmt.one(0), 32)})
            self.check(f, [fmt.make(1, 1, 0), 0], lowest, unity,
                       {NEAR: (fmt.one(0), 160), DOWN: (fmt.one(0) - 1, 32),
                        UPWARD: (fmt.one(0), 160), CUT: (fmt.one(0) - 1, 32)})


class Edges(EveryFormat):
    def formats(self):
        return [(f, BY_NUMBER[f]) for f in FORMATS]

    def test_overflow(self):
        for f, fmt in self.formats():
            unity = [fmt.one(0), 0]
            above, below = [fmt.largest(0), 0], [fmt.largest(1), 0]
            self.check(f, above, unity, above, {NEAR: (fmt.inf(0), 168), DOWN: (fmt.largest(0), 40),
                                                UPWARD: (fmt.inf(0), 168), CUT: (fmt.largest(0), 40)})
            self.check(f, below, unity, below, {NEAR: (fmt.inf(1), 168), DOWN: (fmt.inf(1), 168),
                                                UPWARD: (fmt.largest(1), 40), CUT: (fmt.largest(1), 40)})

    def test_half_a_step_above_the_largest(self):
        for f, fmt in self.formats():
            half = [fmt.bits(power_of_two(fmt.emax - fmt.p)), 0]
            self.check(f, half, [fmt.one(0), 0], [fmt.largest(0), 0],
                       {NEAR: (fmt.inf(0), 168), DOWN: (fmt.largest(0), 32),
                        UPWARD: (fmt.inf(0), 168), CUT: (fmt.largest(0), 32)})

    def test_underflow(self):
        for f, fmt in self.formats():
            half = [fmt.bits(Fraction(1, 2)), 0]
            # Half the smallest and the smallest: a tie that goes to two of them.
            self.check(f, [1, 0], half, [1, 0], {NEAR: (2, 178), DOWN: (1, 50), UPWARD: (2, 178), CUT: (1, 50)})
            self.check(f, [1, 0], half, [0, 0], {NEAR: (0, 50), DOWN: (0, 50), UPWARD: (1, 178), CUT: (0, 50)})
            minus = fmt.make(1, 0, 1)
            self.check(f, [minus, 0], half, [0, 0],
                       {NEAR: (fmt.zero(1), 50), DOWN: (minus, 178), UPWARD: (fmt.zero(1), 50), CUT: (fmt.zero(1), 50)})

    def test_ties_and_what_lies_beside_them(self):
        for f, fmt in self.formats():
            step = power_of_two(1 - fmt.p)
            for low in (1, 1 + step):
                x, y, z = [fmt.bits(step), 0], [fmt.bits(Fraction(1, 2)), 0], [fmt.bits(low), 0]
                under, over = (fmt.bits(low), 32), (fmt.bits(low + step), 160)
                self.check(f, x, y, z, {NEAR: under if low == 1 else over, DOWN: under, UPWARD: over, CUT: under})
                # A third term far below, b d, decides the tie.
                for b, near in ((1, under), (fmt.make(1, 0, 1), over)):
                    answer = {NEAR: near, DOWN: under, UPWARD: over, CUT: under}
                    self.check(f, [x[0], b], [y[0], fmt.bits(1)], z,
                               {r: (bits, flags | self.im_flags(f, r, [x[0], b], [y[0], fmt.bits(1)], z) | 2)
                                for r, (bits, flags) in answer.items()})

    def im_flags(self, f, r, x, y, z):
        fmt = BY_NUMBER[f]
        return oracle.part_of(fmt, r, [(0, x[0], y[1]), (0, x[1], y[0]), (0, z[1], fmt.one(0))])[1]

    def test_small_ones_come_in(self):
        for f, fmt in self.formats():
            for r in ROUNDINGS:
                for place in range(6):
                    parts = [fmt.bits(4)] * 6
                    self.assertEqual(fused(f, r, parts[:2], parts[2:4], parts[4:])[3] & 2, 0)
                    parts[place] = fmt.make(1, 0, 3)
                    self.assertEqual(fused(f, r, parts[:2], parts[2:4], parts[4:])[3] & 2, 2)

    def test_small_one_made_on_the_way_is_none_that_came_in(self):
        for f, fmt in self.formats():
            for r in ROUNDINGS:
                x, y = [fmt.make(0, 1, 0), 0], [fmt.bits(Fraction(1, 2)), 0]
                self.assertEqual(fused(f, r, x, y, [0, 0]), [0, fmt.make(0, 0, 1 << (fmt.p - 2)), 0, 0])

    def test_flags_of_both_parts(self):
        for f, fmt in self.formats():
            tiny = fmt.bits(power_of_two(-fmt.p - 2))
            unity, zero = [fmt.one(0), 0], [0, 0]
            # re overflows, im is cut; then the other way.
            self.assertEqual(fused(f, CUT, [fmt.largest(0), tiny], unity, [fmt.largest(0), fmt.one(0)])[3], 40)
            self.assertEqual(fused(f, CUT, [tiny, fmt.largest(0)], unity, [fmt.one(0), fmt.largest(0)])[3], 40)
            # Only one part is up.
            self.assertEqual(fused(f, UPWARD, [tiny, 0], unity, [fmt.one(0), 0])[3], 160)
            self.assertEqual(fused(f, UPWARD, [0, tiny], unity, [0, fmt.one(0)])[3], 160)
            self.assertEqual(fused(f, UPWARD, [0, fmt.turned(tiny)], unity, [0, fmt.one(1)])[3], 32)
            self.assertEqual(fused(f, UPWARD, zero, unity, [fmt.one(0), 0])[3], 0)


class Zeros(EveryFormat):
    def expected(self, fmt, r, signs):
        if len(set(signs)) == 1:
            return fmt.zero(signs[0])
        return fmt.zero(1 if r == DOWN else 0)

    def test_of_three_zeros_with_all_signs(self):
        for f, fmt, r in self.each():
            for a, b, c, d, e, g in itertools.product((0, 1), repeat=6):
                x, y, z = [fmt.zero(a), fmt.zero(b)], [fmt.one(c), fmt.one(d)], [fmt.zero(e), fmt.zero(g)]
                answer = [0, self.expected(fmt, r, (a ^ c, 1 ^ b ^ d, e)), self.expected(fmt, r, (a ^ d, b ^ c, g)), 0]
                self.assertEqual(fused(f, r, x, y, z), answer)
                self.assertEqual(fused(f, r, y, x, z), answer)

    def test_of_terms_that_cancel(self):
        for f, fmt, r in self.each():
            zero = fmt.zero(1 if r == DOWN else 0)
            # (1 + 2i)(3 + 4i) is -5 + 10i.
            x, y = [fmt.bits(1), fmt.bits(2)], [fmt.bits(3), fmt.bits(4)]
            self.assertEqual(fused(f, r, x, y, [fmt.bits(5), fmt.bits(-10)]), [0, zero, zero, 0])
            # Both products cancel and z is a minus zero: not all terms are zeros.
            u = [fmt.one(0), fmt.one(0)]
            self.assertEqual(fused(f, r, u, u, [fmt.zero(1), 0]), [0, zero, fmt.bits(2), 0])
            self.assertEqual(fused(f, r, u, u, [fmt.zero(0), 0]), [0, zero, fmt.bits(2), 0])


class NotFinite(EveryFormat):
    def test_z_infinite(self):
        for f, fmt, r in self.each():
            x, y = [fmt.bits(1), fmt.bits(2)], [fmt.bits(3), fmt.bits(4)]
            for s in (0, 1):
                self.assertEqual(fused(f, r, x, y, [fmt.inf(s), fmt.one(0)]), [0, fmt.inf(s), fmt.bits(11), 0])
                self.assertEqual(fused(f, r, x, y, [fmt.one(0), fmt.inf(s)]), [0, fmt.bits(-4), fmt.inf(s), 0])

    def test_z_infinite_against_an_infinite_product(self):
        for f, fmt, r in self.each():
            x, unity = [fmt.inf(0), 0], [fmt.one(0), fmt.one(0)]
            self.assertEqual(two(f, MUL, r, x, unity), [0, fmt.inf(0), fmt.inf(0), 0])
            self.assertEqual(fused(f, r, x, unity, [fmt.inf(1), 0]), [0, fmt.empty(), fmt.inf(0), 1])
            self.assertEqual(fused(f, r, x, unity, [fmt.inf(0), fmt.inf(1)]), [0, fmt.inf(0), fmt.empty(), 1])

    def test_a_product_that_overflows_beside_an_infinite_z(self):
        # Rounded before z comes to it, the product is infinite by near, or the greatest finite one by cut.
        for f, fmt in [(f, BY_NUMBER[f]) for f in FORMATS]:
            x, y, z = [fmt.largest(0), 0], [fmt.bits(2), 0], [fmt.inf(1), 0]
            self.assertEqual(fused(f, NEAR, x, y, z), [0, fmt.empty(), 0, 169])
            self.assertEqual(fused(f, CUT, x, y, z), [0, fmt.inf(1), 0, 40])

    def test_flags_of_the_product_stay(self):
        for f, fmt in [(f, BY_NUMBER[f]) for f in FORMATS]:
            step = power_of_two(1 - fmt.p)
            x = [fmt.bits(1 + step), 0]
            # (1 + step)(1 + step) isn't exact; z is none, or infinite, in each part.
            for z in ([fmt.quiet(0, 3), 0], [0, fmt.quiet(0, 3)], [fmt.inf(0), 0], [0, fmt.inf(0)]):
                self.assertEqual(fused(f, UPWARD, x, x, z)[3], 160)
                self.assertEqual(fused(f, CUT, x, x, z)[3], 32)
            self.assertEqual(fused(f, UPWARD, x, x, [fmt.loud(), 0])[3], 161)

    def test_no_numbers_in_each_place(self):
        for f, fmt, r in self.each():
            for place, bits in itertools.product(range(6), (fmt.quiet(1, 5), fmt.loud(1, 3))):
                parts = [fmt.one(0)] * 6
                parts[place] = bits
                calm, flag = fmt.made_quiet(bits), 1 if fmt.kind(bits) == "loud" else 0
                # (1 + i)(1 + i) + (1 + i) is 1 + 3i: z's none stays in its own part.
                expected = [0, fmt.one(0) if place == 5 else calm, fmt.bits(3) if place == 4 else calm, flag]
                self.assertEqual(fused(f, r, parts[:2], parts[2:4], parts[4:]), expected)

    def test_the_first_no_number_comes(self):
        for f, fmt, r in self.each():
            first, second, unity = fmt.quiet(1, 5), fmt.quiet(0, 6), [fmt.one(0), fmt.one(0)]
            self.assertEqual(fused(f, r, [first, 0], unity, [second, 0]), [0, first, first, 0])
            self.assertEqual(fused(f, r, unity, [0, second], [first, first]), [0, second, second, 0])
            self.assertEqual(fused(f, r, [first, 0], unity, [fmt.loud(), 0]), [0, first, first, 1])
            self.assertEqual(fused(f, r, [first, 0], unity, [fmt.inf(0), fmt.inf(0)]), [0, first, first, 0])

    def test_infinite_stays_infinite(self):
        for f, fmt, r in self.each():
            finite = [bits for bits in kinds_of_floats(fmt) if fmt.finite(bits)]
            for s, other, c, d in itertools.product((0, 1), kinds_of_floats(fmt), finite, finite):
                if any(fmt.kind(bits) != "zero" for bits in (c, d)):
                    x, y = [fmt.inf(s), other], [c, d]
                    for z in ([0, 0], [fmt.largest(1), fmt.one(0)]):
                        self.assertTrue(is_infinite(fmt, fused(f, r, x, y, z)[1:3]), (f, r, x, y, z))

    def test_recovered_product(self):
        for f, fmt, r in self.each():
            x, y = [fmt.inf(0), fmt.loud(0, 2)], [fmt.one(0), fmt.one(0)]
            self.assertEqual(fused(f, r, x, y, [fmt.one(0), fmt.one(1)]), [0, fmt.inf(0), fmt.inf(0), 0])
            self.assertEqual(fused(f, r, x, y, [fmt.loud(0, 1), 0]), [0, fmt.quiet(0, 1), fmt.inf(0), 1])


class Promises(EveryFormat):
    def operands(self, seed, how_many):
        source = random.Random(seed)
        for f in FORMATS:
            fmt = BY_NUMBER[f]
            for times in range(how_many):
                spread = source.choice((None, 0, 2, fmt.p))
                parts = [random_finite(fmt, source, spread) for place in range(6)]
                yield f, fmt, parts[:2], parts[2:4], parts[4:]

    def test_no_order_of_the_factors(self):
        for f, fmt, x, y, z in self.operands(43, 200):
            for r in ROUNDINGS:
                self.assertEqual(fused(f, r, x, y, z), fused(f, r, y, x, z))

    def test_conj_goes_through(self):
        for f, fmt, x, y, z in self.operands(44, 200):
            u, v, w = (one(f, CONJ, NEAR, number)[1:3] for number in (x, y, z))
            for r in ROUNDINGS:
                answer = fused(f, r, x, y, z)
                self.assertEqual(answer[1], fused(f, r, u, v, w)[1])
                turned = fused(f, MIRRORED[r], u, v, w)[2]
                if fmt.kind(answer[2]) == "zero":
                    self.assertEqual(fmt.kind(turned), "zero")
                else:
                    self.assertEqual(answer[2], fmt.turned(turned))

    def test_of_one_it_is_the_sum_with_up(self):
        for f, fmt, x, y, z in self.operands(45, 100):
            for r in ROUNDINGS:
                plain = two(f, ADD, r, x, z)
                answer = fused(f, r, x, [fmt.one(0), 0], z)
                self.assertEqual(answer[3] & ~128, plain[3])
                for place in (1, 2):
                    if fmt.kind(plain[place]) != "zero":
                        self.assertEqual(answer[place], plain[place])


class AgainstFractions(EveryFormat):
    def check_all(self, f, parts, roundings):
        x, y, z = parts[:2], parts[2:4], parts[4:]
        for r in roundings:
            self.assertEqual(fused(f, r, x, y, z), oracle.fused(f, r, x, y, z), (f, r, x, y, z))

    def test_of_finite_ones(self):
        source = random.Random(46)
        for f in FORMATS:
            fmt = BY_NUMBER[f]
            for times in range(500):
                spread = source.choice((None, 0, 1, 3, fmt.p, 2 * fmt.p))
                self.check_all(f, [random_finite(fmt, source, spread) for place in range(6)], ROUNDINGS)

    def test_at_the_exponents_ends(self):
        source = random.Random(47)
        for f in FORMATS:
            fmt = BY_NUMBER[f]
            ends = (0, 1, 2, fmt.emax // 2, fmt.emax, fmt.emax + fmt.emax // 2, fmt.all_ones - 2, fmt.all_ones - 1)
            for times in range(500):
                self.check_all(f, [fmt.make(source.getrandbits(1), source.choice(ends),
                                            source.getrandbits(fmt.fraction_bits)) for place in range(6)], ROUNDINGS)

    def test_of_every_kind(self):
        source = random.Random(48)
        for f in FORMATS:
            kinds = kinds_of_floats(BY_NUMBER[f])
            for times in range(6000):
                self.check_all(f, [source.choice(kinds) for place in range(6)], [times % 4])


if __name__ == "__main__":
    unittest.main()
