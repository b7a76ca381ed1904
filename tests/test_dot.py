"""dot: of finite ones nothing is rounded before the end, in whatever order; of others fused by fused."""

import itertools
import random
import unittest
from fractions import Fraction

from oncerounded.complexes import dot, fused, one
from tests import oracle
from tests.oracle import (BY_NUMBER, CONJ, CUT, DOWN, FORMATS, NEAR, ROUNDINGS, UPWARD, is_infinite, kinds_of_floats,
                          power_of_two, random_finite)


def flat(rows):
    return [bits for row in rows for bits in row]


def conjugates(fmt, pairs):
    return [fmt.turned(bits) if place % 4 == 1 else bits for place, bits in enumerate(pairs)]


class EveryFormat(unittest.TestCase):
    def formats(self):
        return [(f, BY_NUMBER[f]) for f in FORMATS]

    def each(self):
        for f, fmt in self.formats():
            for r in ROUNDINGS:
                yield f, fmt, r

    def check_both(self, f, r, z, pairs, expected):
        """The pairs by themselves, and their conjugates where conj is 1."""
        self.assertEqual(dot(f, r, 0, z, pairs), expected, (f, r, z, pairs))
        self.assertEqual(dot(f, r, 1, z, conjugates(BY_NUMBER[f], pairs)), expected, (f, r, z, pairs))

    def check_real(self, f, z, rows, expected):
        """Of real numbers: for each rounding the real part and the flags."""
        fmt = BY_NUMBER[f]
        for r in ROUNDINGS:
            pairs = flat([[a, fmt.zero(0), c, fmt.zero(0)] for a, c in rows])
            for conj in (0, 1):
                answer = dot(f, r, conj, [z, 0], pairs)
                with self.subTest(f=f, r=r):
                    self.assertEqual((answer[1], answer[3]), expected[r])


class Ordinary(EveryFormat):
    def test_written_out(self):
        # (1 + 1i) + (1 + 2i)(3 + 4i) + (2 - 1i)(1 + 1i) is -4 + 11i and 3 + 1i: -1 + 12i.
        pairs = [0x3F800000, 0x40000000, 0x40400000, 0x40800000, 0x40000000, 0xBF800000, 0x3F800000, 0x3F800000]
        z = [0x3F800000, 0x3F800000]
        self.assertEqual(dot(1, NEAR, 0, z, pairs), [0, 0xBF800000, 0x41400000, 0])
        # (1 - 2i)(3 + 4i) is 11 - 2i, (2 + 1i)(1 + 1i) is 1 + 3i: 13 + 2i.
        self.assertEqual(dot(1, NEAR, 1, z, pairs), [0, 0x41500000, 0x40000000, 0])

    def test_of_whole_numbers(self):
        source = random.Random(51)
        for f, fmt, r in self.each():
            for how_many in (0, 1, 2, 7, 32):
                numbers = [source.randint(-5, 5) for place in range(2 + 4 * how_many)]
                z, rows = numbers[:2], [numbers[k:k + 4] for k in range(2, len(numbers), 4)]
                for conj in (0, 1):
                    turn = -1 if conj else 1
                    re = z[0] + sum(a * c - turn * b * d for a, b, c, d in rows)
                    im = z[1] + sum(a * d + turn * b * c for a, b, c, d in rows)
                    answer = dot(f, r, conj, [fmt.bits(value) for value in z], [fmt.bits(v) for v in flat(rows)])
                    if re:
                        self.assertEqual(answer[1], fmt.bits(re))
                    if im:
                        self.assertEqual(answer[2], fmt.bits(im))
                    self.assertEqual(answer[3], 0)

    def test_one_pair_is_fused(self):
        source = random.Random(52)
        for f, fmt, r in self.each():
            kinds = kinds_of_floats(fmt)
            for times in range(150):
                parts = [source.choice(kinds) if times % 2 else random_finite(fmt, source, 3) for place in range(6)]
                x, y, z = parts[:2], parts[2:4], parts[4:]
                self.check_both(f, r, z, x + y, fused(f, r, x, y, z))

    def test_as_many_as_may_be(self):
        for f, fmt, r in self.each():
            pairs = [fmt.one(0), fmt.one(0), fmt.one(0), fmt.one(0)] * 32
            self.assertEqual(dot(f, r, 0, [0, 0], pairs)[2:], [fmt.bits(64), 0])
            self.assertEqual(dot(f, r, 1, [0, 0], pairs)[1], fmt.bits(64))
            self.assertEqual(dot(f, r, 0, [0, 0], pairs + [0, 0, 0, 0]), [-1])
            self.assertEqual(dot(f, r, 0, [0, 0], pairs + [0] * 72), [-1])


class NoPairs(EveryFormat):
    def test_z_as_it_is(self):
        for f, fmt, r in self.each():
            for a, b in itertools.product(kinds_of_floats(fmt), repeat=2):
                kinds = [fmt.kind(a), fmt.kind(b)]
                finite = fmt.finite(a) and fmt.finite(b)
                flags = 2 if finite and "small" in kinds else 0
                for conj in (0, 1):
                    self.assertEqual(dot(f, r, conj, [a, b], []), [0, a, b, flags])

    def test_loud_stays_loud(self):
        for f, fmt, r in self.each():
            self.assertEqual(dot(f, r, 0, [fmt.loud(1, 3), 1], []), [0, fmt.loud(1, 3), 1, 0])


class Cancelling(EveryFormat):
    def test_great_ones_around_a_tiny_one(self):
        for f, fmt, r in self.each():
            great, tiny, unity = fmt.largest(0), fmt.bits(power_of_two(fmt.emin)), fmt.one(0)
            rows = [[great, 0, great, 0], [tiny, 0, unity, 0], [fmt.turned(great), 0, great, 0]]
            for order in itertools.permutations(rows):
                self.check_both(f, r, [0, 0], flat(order), [0, tiny, fmt.zero(1 if r == DOWN else 0), 0])
                self.assertEqual(dot(f, r, 0, [tiny, 0], flat(row for row in order if row[0] != tiny))[1], tiny)

    def test_the_last_digit_of_a_square(self):
        # (1 + u)(1 + u) - 1 - 2 u is u u, in three pairs of their own.
        for f, fmt, r in self.each():
            u = power_of_two(1 - fmt.p)
            rows = [[fmt.bits(1 + u), 0, fmt.bits(1 + u), 0], [fmt.one(1), 0, fmt.one(0), 0],
                    [fmt.bits(-2 * u), 0, fmt.one(0), 0]]
            for order in itertools.permutations(rows):
                self.assertEqual(dot(f, r, 0, [0, 0], flat(order))[1::2], [fmt.bits(u * u), 0])

    def test_steps_would_lose_the_small_ones(self):
        # 31 times half a last digit: each alone is lost beside 1, all together are not.
        for f, fmt in self.formats():
            half = fmt.bits(power_of_two(-fmt.p))
            step = power_of_two(1 - fmt.p)
            low, over = fmt.bits(1 + 15 * step), fmt.bits(1 + 16 * step)
            self.check_real(f, fmt.one(0), [(half, fmt.one(0))] * 31,
                            {NEAR: (over, 160), DOWN: (low, 32), UPWARD: (over, 160), CUT: (low, 32)})
            self.check_real(f, fmt.one(0), [(half, fmt.one(0))] * 32, {r: (over, 0) for r in ROUNDINGS})

    def test_everything_cancels(self):
        source = random.Random(53)
        for f, fmt, r in self.each():
            rows = [[random_finite(fmt, source) for place in range(4)] for pair in range(16)]
            opposite = [[fmt.turned(row[0]), fmt.turned(row[1])] + row[2:] for row in rows]
            both = rows + opposite
            source.shuffle(both)
            zero = fmt.zero(1 if r == DOWN else 0)
            small = oracle.came(fmt, flat(rows))
            self.check_both(f, r, [0, 0], flat(both), [0, zero, zero, small])
            # What's left of all is the last digit that z has.
            self.check_both(f, r, [1, fmt.make(1, 0, 1)], flat(both), [0, 1, fmt.make(1, 0, 1), 2])


class Orders(EveryFormat):
    def test_of_finite_ones(self):
        source = random.Random(54)
        for f, fmt, r in self.each():
            for times in range(25):
                spread = source.choice((None, 1, fmt.p, 2 * fmt.p))
                rows = [[random_finite(fmt, source, spread) for place in range(4)] for pair in
                        range(source.choice((2, 3, 5, 32)))]
                z = [random_finite(fmt, source, spread) for place in range(2)]
                conj = times % 2
                told = dot(f, r, conj, z, flat(rows))
                for again in range(4):
                    source.shuffle(rows)
                    self.assertEqual(dot(f, r, conj, z, flat(rows)), told)
                if not conj:
                    self.assertEqual(dot(f, r, 0, z, flat(row[2:] + row[:2] for row in rows)), told)

    def test_of_few_in_every_order(self):
        for f, fmt, r in self.each():
            finite = [bits for bits in kinds_of_floats(fmt) if fmt.finite(bits)]
            rows = [[finite[k % 6], finite[(k + 1) % 6], finite[(k + 3) % 6], finite[(k + 2) % 6]] for k in range(5)]
            told = dot(f, r, 0, [fmt.one(1), 1], flat(rows))
            for order in itertools.permutations(rows):
                self.assertEqual(dot(f, r, 0, [fmt.one(1), 1], flat(order)), told)


class Edges(EveryFormat):
    def test_overflow(self):
        for f, fmt in self.formats():
            for s in (0, 1):
                inf, largest = (fmt.inf(s), 168), (fmt.largest(s), 40)
                expected = {NEAR: inf, DOWN: inf if s else largest, UPWARD: largest if s else inf, CUT: largest}
                self.check_real(f, fmt.largest(s), [(fmt.largest(s), fmt.one(0)), (fmt.one(0), fmt.one(0))], expected)
                self.check_real(f, 0, [(fmt.largest(s), fmt.largest(0)), (fmt.largest(0), fmt.largest(1 - s)),
                                       (fmt.largest(s), fmt.bits(2))], expected)

    def test_overflow_on_the_way_is_none(self):
        for f, fmt in self.formats():
            self.check_real(f, fmt.largest(1), [(fmt.largest(0), fmt.largest(0)), (fmt.largest(0), fmt.bits(2)),
                                                (fmt.largest(1), fmt.largest(0))],
                            {r: (fmt.largest(0), 0) for r in ROUNDINGS})

    def test_underflow(self):
        for f, fmt in self.formats():
            lowest, half = fmt.make(0, 1, 0), fmt.bits(Fraction(1, 2))
            self.check_real(f, 0, [(lowest, lowest)] * 2, {NEAR: (0, 48), DOWN: (0, 48), UPWARD: (1, 176),
                                                           CUT: (0, 48)})
            # Three halves of the smallest, then a rest that decides the tie.
            expected = {NEAR: (2, 178), DOWN: (1, 50), UPWARD: (2, 178), CUT: (1, 50)}
            self.check_real(f, 0, [(1, half)] * 3, expected)
            self.check_real(f, 1, [(1, half), (lowest, lowest)], expected)
            expected[NEAR] = (1, 50)
            self.check_real(f, 1, [(1, half), (lowest, fmt.turned(lowest))], expected)

    def test_underflow_of_each_alone_but_not_of_all(self):
        for f, fmt in self.formats():
            quarter = fmt.bits(Fraction(1, 4))
            self.check_real(f, 0, [(1, quarter)] * 32, {r: (8, 2) for r in ROUNDINGS})

    def test_small_ones_come_in_anywhere(self):
        for f, fmt in self.formats():
            for place in range(2 + 4 * 3):
                parts = [fmt.bits(4)] * 14
                for conj, r in itertools.product((0, 1), ROUNDINGS):
                    self.assertEqual(dot(f, r, conj, parts[:2], parts[2:])[3] & 2, 0)
                parts[place] = fmt.make(1, 0, 3)
                for conj, r in itertools.product((0, 1), ROUNDINGS):
                    self.assertEqual(dot(f, r, conj, parts[:2], parts[2:])[3] & 2, 2)

    def test_small_one_made_on_the_way(self):
        # Of finite ones there is none on the way.
        for f, fmt in self.formats():
            lowest, half = fmt.make(0, 1, 0), fmt.bits(Fraction(1, 2))
            self.check_real(f, 0, [(lowest, half)] * 2, {r: (lowest, 0) for r in ROUNDINGS})

    def test_up_of_each_part(self):
        for f, fmt in self.formats():
            tiny, unity = fmt.bits(power_of_two(-fmt.p - 2)), fmt.one(0)
            z = [unity, 0]
            for pairs in ([tiny, 0, unity, 0], [tiny, 0, unity, 0, tiny, 0, unity, 0]):
                self.assertEqual([dot(f, r, 0, z, pairs)[3] for r in ROUNDINGS], [32, 32, 160, 32])
                self.assertEqual([dot(f, r, 0, [0, unity], [pairs[1], pairs[0]] + pairs[2:])[3] & 128
                                  for r in ROUNDINGS], [0, 0, 128, 0])
                self.assertEqual([dot(f, r, 0, [fmt.turned(unity), 0], [fmt.turned(bits) if place % 4 == 0 else bits
                                                                       for place, bits in enumerate(pairs)])[3]
                                  for r in ROUNDINGS], [32, 160, 32, 32])


class Zeros(EveryFormat):
    def expected(self, fmt, r, signs):
        if len(set(signs)) == 1:
            return fmt.zero(signs[0])
        return fmt.zero(1 if r == DOWN else 0)

    def check_signs(self, f, fmt, r, signs):
        z, rows = signs[:2], [signs[k:k + 4] for k in range(2, len(signs), 4)]
        re = [z[0]] + [s for a, b, c, d in rows for s in (a ^ c, 1 ^ b ^ d)]
        im = [z[1]] + [s for a, b, c, d in rows for s in (a ^ d, b ^ c)]
        pairs = [fmt.one(s) if place % 4 > 1 else fmt.zero(s) for place, s in enumerate(signs[2:])]
        answer = [0, self.expected(fmt, r, re), self.expected(fmt, r, im), 0]
        self.check_both(f, r, [fmt.zero(s) for s in z], pairs, answer)

    def test_of_all_signs(self):
        for f, fmt, r in self.each():
            for signs in itertools.product((0, 1), repeat=6):
                self.check_signs(f, fmt, r, list(signs))

    def test_of_many_terms(self):
        source = random.Random(55)
        for f, fmt, r in self.each():
            for times in range(40):
                self.check_signs(f, fmt, r, [source.getrandbits(1) for place in range(10)])
            # All 65 terms of re, or of im, are minus zeros; then one of them isn't.
            for row in ([1, 0, 0, 0], [0, 1, 1, 1]):
                self.check_signs(f, fmt, r, [1, 1] + row * 32)
            for row in ([1, 1, 0, 0], [0, 0, 1, 1]):
                self.check_signs(f, fmt, r, [1, 1] + row * 32)
                self.check_signs(f, fmt, r, [0, 0] + row * 32)
                self.check_signs(f, fmt, r, [1, 1] + row * 31 + [0, 1, 0, 0])
            for row in ([0, 1, 0, 0], [1, 0, 0, 1]):
                self.check_signs(f, fmt, r, [0, 0] + row * 32)


class NotFinite(EveryFormat):
    def rows(self, fmt):
        return [[fmt.bits(value) for value in row] for row in ((1, 2, 3, 4), (2, -1, 1, 1), (-3, 5, 2, -2))]

    def test_in_each_place(self):
        for f, fmt, r in self.each():
            for bits in (fmt.inf(0), fmt.inf(1), fmt.quiet(1, 5), fmt.loud(1, 3), fmt.loud(0, 2)):
                for place in range(14):
                    parts = [fmt.one(0), fmt.bits(-2)] + flat(self.rows(fmt))
                    parts[place] = bits
                    for conj in (0, 1):
                        self.assertEqual(dot(f, r, conj, parts[:2], parts[2:]),
                                         oracle.dot(f, r, conj, parts[:2], parts[2:]))

    def test_infinite_before_and_behind(self):
        for f, fmt, r in self.each():
            unity, inf = fmt.one(0), fmt.inf(0)
            # inf + inf i, and 2.
            great, plain = [inf, 0, unity, unity], [fmt.bits(2), 0, unity, 0]
            self.check_both(f, r, [unity, 0], great + plain, [0, inf, inf, 0])
            self.check_both(f, r, [unity, 0], plain + great, [0, inf, inf, 0])
            self.check_both(f, r, [fmt.inf(1), 0], plain + great, [0, fmt.empty(), inf, 1])
            self.check_both(f, r, [fmt.inf(1), 0], plain, [0, fmt.inf(1), 0, 0])

    def test_none_before_and_behind(self):
        for f, fmt, r in self.each():
            quiet, loud, unity = fmt.quiet(0, 5), fmt.loud(0, 3), [fmt.one(0), 0]
            calm, plain = fmt.made_quiet(loud), [fmt.bits(2), 0, fmt.one(0), 0]
            for z, pairs in (([quiet, quiet], plain + plain), (unity, plain + [0, 0, quiet, quiet]),
                             (unity, [quiet, 0] + unity + plain)):
                self.assertEqual(dot(f, r, 0, z, pairs), [0, quiet, quiet, 0])
            for z, pairs in (([loud, loud], plain + plain), (unity, plain + [0, 0, loud, loud]),
                             (unity, [loud, 0] + unity + plain)):
                self.assertEqual(dot(f, r, 0, z, pairs), [0, calm, calm, 1])
            # The product's no number comes before what was there: x y + z.
            self.assertEqual(dot(f, r, 0, [quiet, quiet], [loud, 0] + unity), [0, calm, calm, 1])

    def test_conjugate_of_no_numbers_has_its_sign_turned(self):
        for f, fmt, r in self.each():
            for bits in (fmt.quiet(0, 5), fmt.loud(1, 3)):
                calm = fmt.turned(fmt.made_quiet(bits))
                flag = 1 if fmt.kind(bits) == "loud" else 0
                self.assertEqual(dot(f, r, 1, [0, 0], [0, bits, fmt.one(0), 0]), [0, calm, calm, flag])

    def test_rounded_at_each_pair(self):
        # In steps the great ones overflow, by near to infinite ones, and what was rounded stays told.
        for f, fmt in self.formats():
            great, unity = fmt.largest(0), fmt.one(0)
            rows = [[great, 0, fmt.bits(2), 0], [fmt.turned(great), 0, fmt.bits(2), 0], [0, fmt.inf(0), unity, 0]]
            finite = rows[:2]
            self.assertEqual(dot(f, NEAR, 0, [0, 0], flat(finite))[1::2], [0, 0])
            self.assertEqual(dot(f, NEAR, 0, [0, 0], flat(rows)), oracle.dot(f, NEAR, 0, [0, 0], flat(rows)))
            self.assertEqual(dot(f, NEAR, 0, [0, 0], flat(rows))[3], 169)
            self.assertEqual(dot(f, CUT, 0, [0, 0], flat(rows))[3] & 40, 40)

    def test_flags_together(self):
        for f, fmt in self.formats():
            tiny, unity = fmt.bits(power_of_two(-fmt.p - 2)), fmt.one(0)
            pairs = [tiny, 0, unity, 0, fmt.loud(), 0, unity, 0]
            self.assertEqual([dot(f, r, 0, [unity, 0], pairs)[3] for r in ROUNDINGS], [33, 33, 161, 33])
            self.assertEqual(dot(f, NEAR, 0, [1, 0], pairs)[3] & 2, 2)

    def test_infinite_stays_infinite(self):
        source = random.Random(56)
        for f, fmt, r in self.each():
            for times in range(40):
                rows = [[random_finite(fmt, source, 2) for place in range(4)] for pair in range(3)]
                rows[times % 3][times % 2] = fmt.inf(times // 2 % 2)
                z = [random_finite(fmt, source, 2) for place in range(2)]
                for conj in (0, 1):
                    self.assertTrue(is_infinite(fmt, dot(f, r, conj, z, flat(rows))[1:3]))

    def test_is_fused_of_each(self):
        source = random.Random(57)
        for f, fmt, r in self.each():
            kinds = kinds_of_floats(fmt)
            for times in range(60):
                rows = [[source.choice(kinds) for place in range(4)] for pair in range(3)]
                z, flags = [fmt.quiet(0, 1), fmt.inf(1)], 0
                for row in rows:
                    told = fused(f, r, row[:2], row[2:], z)
                    z, flags = told[1:3], flags | told[3]
                self.check_both(f, r, [fmt.quiet(0, 1), fmt.inf(1)], flat(rows), [0, *z, flags])


class Conjugates(EveryFormat):
    def test_each_x_alone(self):
        source = random.Random(58)
        for f, fmt, r in self.each():
            for times in range(30):
                rows = [[random_finite(fmt, source, 3) for place in range(4)] for pair in range(3)]
                z = [random_finite(fmt, source, 3) for place in range(2)]
                turned = flat(one(f, CONJ, r, row[:2])[1:3] + row[2:] for row in rows)
                self.assertEqual(dot(f, r, 1, z, flat(rows)), dot(f, r, 0, z, turned))

    def test_with_itself_it_is_the_norm(self):
        for f, fmt, r in self.each():
            x = [fmt.bits(3), fmt.bits(-4)]
            self.assertEqual(dot(f, r, 1, [0, 0], x + x)[1], fmt.bits(25))
            self.assertEqual(dot(f, r, 1, [0, 0], x + x)[2], fmt.zero(1 if r == DOWN else 0))
            self.assertEqual(dot(f, r, 1, [0, 0], (x + x) * 4)[1], fmt.bits(100))


class AgainstFractions(EveryFormat):
    def check_all(self, f, z, pairs, roundings):
        for r, conj in itertools.product(roundings, (0, 1)):
            self.assertEqual(dot(f, r, conj, z, pairs), oracle.dot(f, r, conj, z, pairs), (f, r, conj, z, pairs))

    def test_of_finite_ones(self):
        source = random.Random(59)
        for f, fmt in self.formats():
            for times in range(120):
                spread = source.choice((None, 0, 1, 3, fmt.p, 2 * fmt.p))
                how_many = source.choice((0, 1, 2, 2, 3, 5, 32))
                z = [random_finite(fmt, source, spread) for place in range(2)]
                pairs = [random_finite(fmt, source, spread) for place in range(4 * how_many)]
                self.check_all(f, z, pairs, ROUNDINGS)

    def test_at_the_exponents_ends(self):
        source = random.Random(60)
        for f, fmt in self.formats():
            ends = (0, 1, 2, fmt.emax // 2, fmt.emax, fmt.emax + fmt.emax // 2, fmt.all_ones - 2, fmt.all_ones - 1)
            for times in range(120):
                parts = [fmt.make(source.getrandbits(1), source.choice(ends), source.getrandbits(fmt.fraction_bits))
                         for place in range(10)]
                self.check_all(f, parts[:2], parts[2:], ROUNDINGS)

    def test_of_every_kind(self):
        source = random.Random(61)
        for f, fmt in self.formats():
            kinds = kinds_of_floats(fmt)
            for times in range(1500):
                parts = [source.choice(kinds) for place in range(2 + 4 * source.choice((0, 1, 2, 3)))]
                self.check_all(f, parts[:2], parts[2:], [times % 4])

    def test_of_few_that_are_not_finite(self):
        source = random.Random(62)
        for f, fmt in self.formats():
            kinds = kinds_of_floats(fmt)
            for times in range(400):
                parts = [random_finite(fmt, source, 3) for place in range(18)]
                parts[source.randrange(18)] = source.choice(kinds)
                self.check_all(f, parts[:2], parts[2:], [times % 4])


if __name__ == "__main__":
    unittest.main()
