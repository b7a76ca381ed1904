"""change: each of the nine ways from a format to a format, rounded once; no numbers cut or filled up."""

import itertools
import random
import struct
import unittest
from fractions import Fraction

from oncerounded.complexes import change
from tests import oracle
from tests.oracle import (BY_NUMBER, CUT, DOWN, FORMATS, NEAR, ROUNDINGS, UPWARD, kinds_of_floats, power_of_two,
                          random_finite)

WAYS = tuple(itertools.product(FORMATS, repeat=2))
NARROWING = tuple((f, g) for f, g in WAYS if f > g)
WIDENING = tuple((f, g) for f, g in WAYS if f < g)


class EveryWay(unittest.TestCase):
    def each(self, ways=WAYS):
        for f, g in ways:
            for r in ROUNDINGS:
                yield f, BY_NUMBER[f], g, BY_NUMBER[g], r

    def check(self, f, g, value, expected):
        """expected: for each rounding the float's size and the flags of a value above 0; in each part, both signs."""
        fmt, target = BY_NUMBER[f], BY_NUMBER[g]
        bits = fmt.bits(value)
        mirrored = {NEAR: NEAR, DOWN: UPWARD, UPWARD: DOWN, CUT: CUT}
        for r in ROUNDINGS:
            told, flags = expected[r]
            minus, minus_flags = expected[mirrored[r]]
            with self.subTest(f=f, g=g, r=r):
                self.assertEqual(change(f, g, r, [bits, 0]), [0, told, 0, flags])
                self.assertEqual(change(f, g, r, [0, bits]), [0, 0, told, flags])
                self.assertEqual(change(f, g, r, [fmt.turned(bits), 0]), [0, target.turned(minus), 0, minus_flags])


class Ordinary(EveryWay):
    def test_written_out(self):
        for f, g, r in itertools.product(FORMATS, FORMATS, ROUNDINGS):
            plain = ((0x3E00, 0xC000), (0x3FC00000, 0xC0000000), (0x3FF8000000000000, 0xC000000000000000))
            self.assertEqual(change(f, g, r, list(plain[f])), [0, *plain[g], 0])

    def test_a_tenth(self):
        # 0.1 of doubles: its size in singles is above, in halves below.
        tenth = 0x3FB999999999999A
        self.assertEqual([change(2, 1, r, [tenth, 0]) for r in ROUNDINGS],
                         [[0, 0x3DCCCCCD, 0, 160], [0, 0x3DCCCCCC, 0, 32], [0, 0x3DCCCCCD, 0, 160],
                          [0, 0x3DCCCCCC, 0, 32]])
        self.assertEqual([change(2, 0, r, [tenth, 0]) for r in ROUNDINGS],
                         [[0, 0x2E66, 0, 32], [0, 0x2E66, 0, 32], [0, 0x2E67, 0, 160], [0, 0x2E66, 0, 32]])
        self.assertEqual(change(1, 2, NEAR, [0x3DCCCCCD, 0]), [0, 0x3FB99999A0000000, 0, 0])

    def test_whole_numbers(self):
        for f, fmt, g, target, r in self.each():
            for a, b in ((1, -1), (3, 5), (-1024, 2047), (0, 7)):
                self.assertEqual(change(f, g, r, [fmt.bits(a), fmt.bits(b)]), [0, target.bits(a), target.bits(b), 0])

    def test_to_the_same(self):
        for f in FORMATS:
            fmt = BY_NUMBER[f]
            for r, bits in itertools.product(ROUNDINGS, kinds_of_floats(fmt)):
                flags = {"small": 2, "loud": 1}.get(fmt.kind(bits), 0)
                told = fmt.made_quiet(bits) if fmt.no_number(bits) else bits
                self.assertEqual(change(f, f, r, [bits, fmt.one(0)]), [0, told, fmt.one(0), flags])
                self.assertEqual(change(f, f, r, [fmt.one(0), bits]), [0, fmt.one(0), told, flags])

    def test_zeros_and_infinite_ones(self):
        for f, fmt, g, target, r in self.each():
            for s, t in itertools.product((0, 1), repeat=2):
                self.assertEqual(change(f, g, r, [fmt.zero(s), fmt.zero(t)]), [0, target.zero(s), target.zero(t), 0])
                self.assertEqual(change(f, g, r, [fmt.inf(s), fmt.inf(t)]), [0, target.inf(s), target.inf(t), 0])
                self.assertEqual(change(f, g, r, [fmt.inf(s), fmt.zero(t)]), [0, target.inf(s), target.zero(t), 0])


class Widening(EveryWay):
    def test_is_exact_and_comes_back(self):
        source = random.Random(81)
        for f, fmt, g, target, r in self.each(WIDENING):
            for times in range(100):
                x = [random_finite(fmt, source) for place in range(2)]
                told = change(f, g, r, x)
                self.assertEqual([target.value(bits) for bits in told[1:3]], [fmt.value(bits) for bits in x])
                self.assertEqual(told[3], oracle.came(fmt, x))
                self.assertEqual(change(g, f, r, told[1:3])[:3], [0] + x)

    def test_every_half_there_and_back(self):
        fmt = BY_NUMBER[0]
        for bits in range(1 << 16):
            g, r = 1 + bits % 2, bits // 2 % 4
            told = change(0, g, r, [bits, 0])
            back = change(g, 0, r, told[1:3])
            self.assertEqual(back[1], fmt.made_quiet(bits) if fmt.no_number(bits) else bits)
            self.assertEqual(back[3], 0)

    def test_a_small_one_becomes_normal(self):
        for r in ROUNDINGS:
            # 2^-24 and 2^-149.
            self.assertEqual(change(0, 1, r, [0x0001, 0x8001]), [0, 0x33800000, 0xB3800000, 2])
            self.assertEqual(change(0, 2, r, [0x0001, 0]), [0, 0x3E70000000000000, 0, 2])
            self.assertEqual(change(1, 2, r, [0, 0x00000001]), [0, 0, 0x36A0000000000000, 2])
            self.assertEqual(change(0, 1, r, [0x03FF, 0x0400]), [0, 0x387FC000, 0x38800000, 2])


class Narrowing(EveryWay):
    def test_ties(self):
        for f, g in NARROWING:
            target = BY_NUMBER[g]
            step = power_of_two(1 - target.p)
            for low in (1, 1 + step, 2 - step):
                under, over = (target.bits(low), 32), (target.bits(low + step), 160)
                self.check(f, g, low + step / 2, {NEAR: under if low == 1 else over, DOWN: under, UPWARD: over,
                                                  CUT: under})

    def test_beside_a_tie(self):
        for f, g in NARROWING:
            fmt, target = BY_NUMBER[f], BY_NUMBER[g]
            step, bit = power_of_two(1 - target.p), power_of_two(1 - fmt.p)
            under, over = (target.one(0), 32), (target.one(0) + 1, 160)
            for beside in (-bit, bit):
                self.check(f, g, 1 + step / 2 + beside,
                           {NEAR: under if beside < 0 else over, DOWN: under, UPWARD: over, CUT: under})

    def test_overflow(self):
        for f, g in NARROWING:
            fmt, target = BY_NUMBER[f], BY_NUMBER[g]
            inf, largest, only_inexact = (target.inf(0), 168), (target.largest(0), 40), (target.largest(0), 32)
            top = power_of_two(target.emax + 1)
            for value in (top, 2 * top, fmt.value(fmt.largest(0))):
                self.check(f, g, value, {NEAR: inf, DOWN: largest, UPWARD: inf, CUT: largest})
            half = power_of_two(target.emax - target.p)
            above = fmt.value(fmt.bits(target.value(target.largest(0)) + half))
            self.check(f, g, above, {NEAR: inf, DOWN: only_inexact, UPWARD: inf, CUT: only_inexact})
            self.check(f, g, above - half / 2,
                       {NEAR: only_inexact, DOWN: only_inexact, UPWARD: inf, CUT: only_inexact})
            self.check(f, g, target.value(target.largest(0)), {r: (target.largest(0), 0) for r in ROUNDINGS})

    def test_underflow(self):
        for f, g in NARROWING:
            target = BY_NUMBER[g]
            smallest = power_of_two(target.emin - target.p + 1)
            none, first, second = (0, 48), (1, 176), (2, 176)
            self.check(f, g, smallest / 2, {NEAR: none, DOWN: none, UPWARD: first, CUT: none})
            self.check(f, g, smallest * Fraction(3, 4), {NEAR: first, DOWN: none, UPWARD: first, CUT: none})
            self.check(f, g, smallest * Fraction(3, 2), {NEAR: second, DOWN: (1, 48), UPWARD: second, CUT: (1, 48)})
            self.check(f, g, smallest, {r: (1, 0) for r in ROUNDINGS})
            self.check(f, g, smallest * 3, {r: (3, 0) for r in ROUNDINGS})

    def test_about_the_lowest_normal(self):
        for f, g in NARROWING:
            target = BY_NUMBER[g]
            low, normal = power_of_two(target.emin), target.make(0, 1, 0)
            under = (normal - 1, 48)
            # To all digits it is the lowest normal one at once, by near and up; or only as a multiple of the smallest.
            self.check(f, g, low * (1 - power_of_two(-target.p - 1)),
                       {NEAR: (normal, 160), DOWN: under, UPWARD: (normal, 160), CUT: under})
            self.check(f, g, low * (1 - 3 * power_of_two(-target.p - 2)),
                       {NEAR: (normal, 176), DOWN: under, UPWARD: (normal, 160), CUT: under})

    def test_small_ones_vanish(self):
        for f, g in NARROWING:
            fmt = BY_NUMBER[f]
            for bits in (1, (1 << fmt.fraction_bits) - 1):
                self.check(f, g, fmt.value(bits), {NEAR: (0, 50), DOWN: (0, 50), UPWARD: (1, 178), CUT: (0, 50)})

    def test_near_agrees_with_struct(self):
        source = random.Random(82)
        fmt = BY_NUMBER[2]
        for g, code, spread in ((0, "e", 24), (1, "f", 140)):
            target = BY_NUMBER[g]
            for times in range(1500):
                bits = random_finite(fmt, source, spread)
                try:
                    packed = struct.pack(">" + code, struct.unpack(">d", struct.pack(">Q", bits))[0])
                    told = int.from_bytes(packed, "big")
                except OverflowError:
                    told = target.inf(fmt.sign(bits))
                self.assertEqual(change(2, g, NEAR, [bits, 0])[1], told)


class Flags(EveryWay):
    def test_small_whatever_the_other_is(self):
        for f, fmt, g, target, r in self.each():
            small = fmt.make(0, 0, 3)
            alone = change(f, g, r, [small, 0])
            self.assertEqual(alone[3] & 2, 2)
            for other, flag in ((fmt.inf(1), 0), (fmt.quiet(0, 1), 0), (fmt.loud(0, 1), 1), (fmt.one(0), 0)):
                for x in ([small, other], [other, small]):
                    self.assertEqual(change(f, g, r, x)[3], alone[3] | flag)

    def test_of_either_part(self):
        for f, g in NARROWING:
            fmt = BY_NUMBER[f]
            third = fmt.bits(1 + power_of_two(1 - fmt.p))
            for r, flags in ((NEAR, 32), (DOWN, 32), (UPWARD, 160), (CUT, 32)):
                self.assertEqual(change(f, g, r, [third, fmt.one(0)])[3], flags)
                self.assertEqual(change(f, g, r, [fmt.one(0), third])[3], flags)
                self.assertEqual(change(f, g, r, [third, fmt.loud()])[3], flags | 1)
            # One part overflows, the other underflows.
            self.assertEqual(change(f, g, CUT, [fmt.largest(0), fmt.make(0, 1, 0)])[3], 56)


class NoNumbers(EveryWay):
    def test_written_out(self):
        for r in ROUNDINGS:
            for f, g, bits, told, flag in (
                    (0, 1, 0x7D01, 0x7FE02000, 1), (0, 1, 0xFE00, 0xFFC00000, 0),
                    (0, 1, 0x7FFF, 0x7FFFE000, 0), (0, 1, 0x7C01, 0x7FC02000, 1),
                    (0, 2, 0xFE01, 0xFFF8040000000000, 0), (0, 2, 0x7C01, 0x7FF8040000000000, 1),
                    (1, 2, 0x7FC00001, 0x7FF8000020000000, 0), (1, 2, 0xFF800001, 0xFFF8000020000000, 1),
                    (1, 0, 0x7F800001, 0x7E00, 1), (1, 0, 0xFF802000, 0xFE01, 1), (1, 0, 0x7FFFFFFF, 0x7FFF, 0),
                    (1, 0, 0x7FC01FFF, 0x7E00, 0),
                    (2, 0, 0x7FF0000000000001, 0x7E00, 1), (2, 1, 0xFFF0000000000001, 0xFFC00000, 1),
                    (2, 1, 0x7FF0000020000000, 0x7FC00001, 1), (2, 1, 0xFFFFFFFFFFFFFFFF, 0xFFFFFFFF, 0),
                    (2, 0, 0xFFF8000000000000, 0xFE00, 0)):
                self.assertEqual(change(f, g, r, [bits, 0]), [0, told, 0, flag], (f, g, hex(bits)))
                self.assertEqual(change(f, g, r, [0, bits]), [0, 0, told, flag], (f, g, hex(bits)))

    def test_every_bit_of_the_fraction(self):
        for f, fmt, g, target, r in self.each():
            for sign, place in itertools.product((0, 1), range(fmt.fraction_bits)):
                bits = fmt.make(sign, fmt.all_ones, 1 << place)
                behind = fmt.fraction_bits - place
                fraction = 1 << (target.fraction_bits - 1)
                if behind <= target.fraction_bits:
                    fraction |= 1 << (target.fraction_bits - behind)
                told = target.make(sign, target.all_ones, fraction)
                self.assertEqual(change(f, g, r, [bits, 0]), [0, told, 0, 0 if behind == 1 else 1])

    def test_each_part_keeps_its_own(self):
        for f, fmt, g, target, r in self.each():
            self.assertEqual(change(f, g, r, [fmt.quiet(1), fmt.loud(0, 1 << (fmt.fraction_bits - 2))]),
                             [0, target.quiet(1), target.quiet(0, 1 << (target.fraction_bits - 2)), 1])
            self.assertEqual(change(f, g, r, [fmt.inf(0), fmt.quiet(0)]), [0, target.inf(0), target.quiet(0), 0])


class AgainstFractions(EveryWay):
    def test_of_finite_ones(self):
        source = random.Random(83)
        for f, fmt, g, target, r in self.each():
            for times in range(150):
                spread = source.choice((None, 3, target.emax + target.p, fmt.p))
                x = [random_finite(fmt, source, spread) for place in range(2)]
                self.assertEqual(change(f, g, r, x), oracle.change(f, g, r, x), (f, g, r, x))

    def test_about_the_targets_ends(self):
        source = random.Random(84)
        for f, fmt, g, target, r in self.each(NARROWING):
            for times in range(200):
                ends = [fmt.emax + e for e in (target.emin - target.p - 1, target.emin - target.p, target.emin - 1,
                                               target.emin, target.emax, target.emax + 1)]
                x = [fmt.make(source.getrandbits(1), max(0, source.choice(ends)),
                              source.choice((0, 1, -1, source.getrandbits(fmt.fraction_bits)))
                              % (1 << fmt.fraction_bits)) for place in range(2)]
                self.assertEqual(change(f, g, r, x), oracle.change(f, g, r, x), (f, g, r, x))

    def test_of_every_kind(self):
        for f, fmt, g, target, r in self.each():
            for x in itertools.product(kinds_of_floats(fmt), repeat=2):
                self.assertEqual(change(f, g, r, list(x)), oracle.change(f, g, r, list(x)))


if __name__ == "__main__":
    unittest.main()
