"""Wrong inputs, and that nothing handed in is changed, kept or printed."""

import contextlib
import copy
import io
import itertools
import unittest

from oncerounded.complexes import change, dot, fused, kind, one, read, real, same, text, two
from tests.oracle import BY_NUMBER, FORMATS, ROUNDINGS, kinds_of_floats

HIGHEST = 18446744073709551615
NUMBER = "a complex number"
PAIRS = "pairs"
OCTETS = "bytes"
PLAIN = {NUMBER: [0] * 2, PAIRS: [0] * 8, OCTETS: list(b"1+2i")}

# What each call is handed: how many choices there are (0 and on), or what stands in PLAIN.
CALLS = (
    (two, (3, 4, 4, NUMBER, NUMBER)),
    (one, (3, 5, 4, NUMBER)),
    (real, (3, 2, 4, NUMBER)),
    (fused, (3, 4, NUMBER, NUMBER, NUMBER)),
    (dot, (3, 4, 2, NUMBER, PAIRS)),
    (same, (3, NUMBER, NUMBER)),
    (change, (3, 3, 4, NUMBER)),
    (kind, (3, NUMBER)),
    (text, (3, 2, NUMBER)),
    (read, (3, 4, OCTETS)),
)


def right_arguments(kinds, f):
    return [f] + [0 if isinstance(sort, int) else list(PLAIN[sort]) for sort in kinds[1:]]


class Refusals(unittest.TestCase):
    def each(self):
        for call, kinds in CALLS:
            for f in FORMATS:
                yield call, kinds, f

    def test_right_ones_are_taken(self):
        for call, kinds, f in self.each():
            self.assertEqual(call(*right_arguments(kinds, f))[0], 0)

    def test_choices_that_are_not(self):
        for call, kinds, f in self.each():
            for place, sort in enumerate(kinds):
                if isinstance(sort, int):
                    for choice in (sort, sort + 1, 16, 64, 999999, 1000000):
                        arguments = right_arguments(kinds, f)
                        arguments[place] = choice
                        self.assertEqual(call(*arguments), [-1], (call, place, choice))

    def test_choices_that_are(self):
        for call, kinds, f in self.each():
            for place, sort in enumerate(kinds):
                if isinstance(sort, int):
                    for choice in range(sort):
                        arguments = right_arguments(kinds, f)
                        arguments[place] = choice
                        self.assertEqual(call(*arguments)[0], 0, (call, place, choice))

    def test_bits_that_are_not_the_formats(self):
        for call, kinds, f in self.each():
            limit = 1 << BY_NUMBER[f].width
            for place, sort in enumerate(kinds):
                if sort in (NUMBER, PAIRS) and f < 2:
                    for part, bits in itertools.product(range(len(PLAIN[sort])), (limit, limit + 1, HIGHEST)):
                        arguments = right_arguments(kinds, f)
                        arguments[place][part] = bits
                        self.assertEqual(call(*arguments), [-1], (call, place, part))

    def test_highest_bits_are_taken(self):
        for call, kinds, f in self.each():
            highest = (1 << BY_NUMBER[f].width) - 1
            for place, sort in enumerate(kinds):
                if sort in (NUMBER, PAIRS):
                    for part in range(len(PLAIN[sort])):
                        arguments = right_arguments(kinds, f)
                        arguments[place][part] = highest
                        self.assertEqual(call(*arguments)[0], 0, (call, place, part))
        for f in FORMATS:
            bits = (1 << BY_NUMBER[f].width) - 1
            for operation in range(4):
                self.assertEqual(two(f, operation, 0, [bits, bits], [bits, bits]), [0, bits, bits, 0])
            self.assertEqual(one(f, 0, 0, [bits, bits]), [0, bits, bits, 0])
            self.assertEqual(real(f, 0, 0, [bits, bits]), [0, bits, 0])
            self.assertEqual(fused(f, 0, [bits, 0], [0, 0], [0, bits]), [0, bits, bits, 0])

    def test_wrong_in_every_place(self):
        for call, kinds, f in self.each():
            arguments = [1000000 if isinstance(sort, int) else [HIGHEST] * len(PLAIN[sort]) for sort in kinds]
            self.assertEqual(call(*arguments), [-1])

    def test_pairs(self):
        for f, r, conj in itertools.product(FORMATS, ROUNDINGS, (0, 1)):
            self.assertEqual(dot(f, r, conj, [0, 0], [0] * 4 * 32)[0], 0)
            for how_many in (33, 34, 50):
                self.assertEqual(dot(f, r, conj, [0, 0], [0] * 4 * how_many), [-1])
        for f, place in itertools.product((0, 1), range(4 * 32)):
            pairs = [0] * 4 * 32
            pairs[place] = 1 << BY_NUMBER[f].width
            self.assertEqual(dot(f, 0, 0, [0, 0], pairs), [-1])

    def test_length_of_a_text(self):
        for f, r in itertools.product(FORMATS, ROUNDINGS):
            whole = b"1+" + b"0" * 253 + b"i"
            self.assertEqual(read(f, r, list(whole))[0], 0)
            for octets in (b"0" + whole, whole + b"i", b"0" * 44 + whole, b"x" * 257, b"\xff" * 300):
                self.assertEqual(read(f, r, list(octets)), [-1])

    def test_the_refusal_told_first(self):
        # -1 before -2, whatever the text is.
        for octets in ([], list(b"x"), list(b"1+2i"), [255] * 300):
            for f, r in ((3, 0), (0, 4), (1000000, 1000000)):
                self.assertEqual(read(f, r, octets), [-1])
        self.assertEqual(read(2, 3, [255] * 256), [-2, 0])

    def test_bits_of_the_format_that_is_left(self):
        # What the other format's bits could be doesn't count.
        for g, r in itertools.product(FORMATS, ROUNDINGS):
            for f, bits in ((0, 1 << 16), (1, 1 << 32)):
                self.assertEqual(change(f, g, r, [bits, 0]), [-1])
                self.assertEqual(change(f, g, r, [0, bits]), [-1])
                self.assertEqual(change(f, g, r, [bits - 1, 0])[0], 0)
            self.assertEqual(change(2, g, r, [HIGHEST, HIGHEST])[0], 0)

    def test_bits_for_each_operation(self):
        for call, operations in ((two, 4), (one, 5), (real, 2)):
            kinds = dict(CALLS)[call]
            for f, bits in ((0, 1 << 16), (1, 1 << 32)):
                for operation, r in itertools.product(range(operations), ROUNDINGS):
                    for part in (0, 1):
                        arguments = right_arguments(kinds, f)
                        arguments[1:3] = operation, r
                        arguments[3][part] = bits
                        self.assertEqual(call(*arguments), [-1])


class NothingElse(unittest.TestCase):
    def calls(self):
        for f in FORMATS:
            kinds = kinds_of_floats(BY_NUMBER[f])[::2]
            for a, b, c in itertools.product(kinds, repeat=3):
                for r in ROUNDINGS:
                    for operation in range(4):
                        yield two, (f, operation, r, [a, b], [c, a])
                    for operation in range(5):
                        yield one, (f, operation, r, [a, c])
                    for operation in range(2):
                        yield real, (f, operation, r, [b, c])
                    yield fused, (f, r, [a, b], [c, a], [b, c])
                    for conj in range(2):
                        yield dot, (f, r, conj, [b, a], [c, a, b, c, a, a, c, b][:4 * (r % 3)])
                    for g in FORMATS:
                        yield change, (f, g, r, [c, b])
                yield same, (f, [a, b], [a, c])
                yield kind, (f, [b, a])
                for form in range(2):
                    yield text, (f, form, [c, a])
            for octets in (b"1+2i", b"-0.1-0x1.8p-9i", b"inf+1e99999i", b"1+", b"", b"x" * 257):
                for r in ROUNDINGS:
                    yield read, (f, r, list(octets))

    def test_handed_in_stays(self):
        for call, arguments in self.calls():
            before = copy.deepcopy(arguments)
            call(*arguments)
            self.assertEqual(arguments, before)

    def test_the_same_list_in_several_places(self):
        x = [0x3C00, 0x4000]
        self.assertEqual(two(0, 2, 0, x, x), [0, 0xC200, 0x4400, 0])
        self.assertEqual(fused(0, 0, x, x, x), [0, 0xC000, 0x4600, 0])
        self.assertEqual(same(0, x, x), [0, 1, 0])
        self.assertEqual(x, [0x3C00, 0x4000])
        x = [0x3C00, 0x4000, 0x3C00, 0x4000]
        self.assertEqual(dot(0, 0, 1, x[:2], x), [0, 0x4600, 0x4000, 0])
        self.assertEqual(x, [0x3C00, 0x4000, 0x3C00, 0x4000])

    def test_nothing_kept_or_printed(self):
        shown = io.StringIO()
        with contextlib.redirect_stdout(shown), contextlib.redirect_stderr(shown):
            first = [call(*arguments) for call, arguments in self.calls()]
            second = [call(*arguments) for call, arguments in reversed(list(self.calls()))]
        self.assertEqual(first, second[::-1])
        self.assertEqual(shown.getvalue(), "")

    def test_answers_are_lists_of_their_own(self):
        lengths = {two: 4, one: 4, real: 3, fused: 4, dot: 4, same: 3, change: 4, kind: 3}
        for call, arguments in self.calls():
            answer = call(*arguments)
            self.assertIs(type(answer), list)
            self.assertEqual({type(number) for number in answer}, {int})
            if call in lengths:
                self.assertEqual(len(answer), lengths[call])
            answer.append(7)
            self.assertEqual(call(*arguments), answer[:-1])


if __name__ == "__main__":
    unittest.main()
