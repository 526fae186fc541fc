"""change: each pair of formats, by hand and beside the model; S4, to a wider one and back."""

import unittest

from hand import CUT, DOWN, Double, FLUSH, FORMATS, Half, NEAR, Single, UP
import model
from model import EMIN, Float, Sampler, edges, number, two_to
import model_changed
from roundedonce.floats import change

PAIRS = [(n, o) for n in FORMATS for o in FORMATS if n is not o]
WIDER = [(n, o) for n, o in PAIRS if n.f < o.f]


class Hand(unittest.TestCase):
    def changed(self, n, o, how, a, bits, flags):
        self.assertEqual(change(n.f, o.f, how, a), [0, bits, flags], (n, o, how, hex(a)))

    def rounded(self, n, o, a, near, down, up, cut, more_how=0):
        """(bits, flags) of a by each rounding, and of minus a, of which down and up change places."""
        for how, (bits, flags) in ((NEAR, near), (DOWN, down), (UP, up), (CUT, cut)):
            self.changed(n, o, how + more_how, a, bits, flags)
        for how, (bits, flags) in ((NEAR, near), (DOWN, up), (UP, down), (CUT, cut)):
            self.changed(n, o, how + more_how, a | n.minus, bits | o.minus, flags)


class Plain(Hand):
    def test_zeros_and_infinite_ones(self):
        for n, o in PAIRS:
            for how in range(16):
                self.changed(n, o, how, 0, 0, 0)
                self.changed(n, o, how, n.minus, o.minus, 0)
                self.changed(n, o, how, n.infinite, o.infinite, 0)
                self.changed(n, o, how, n.infinite | n.minus, o.infinite | o.minus, 0)

    def test_numbers_that_both_have(self):
        for n, o in PAIRS:
            for how in range(16):
                for a, bits in ((n.one, o.one), (n.one_and_half, o.one_and_half), (n.two, o.two), (n.half, o.half),
                                (n.three, o.three), (n.ten, o.ten)):
                    self.changed(n, o, how, a, bits, 0)
                    self.changed(n, o, how, a | n.minus, bits | o.minus, 0)

    def test_the_ends_in_a_wider_one(self):
        for how in range(16):
            self.changed(Half, Single, how, Half.greatest, 0x477FE000, 0)
            self.changed(Half, Double, how, Half.greatest, 0x40EFFC0000000000, 0)
            self.changed(Single, Double, how, Single.greatest, 0x47EFFFFFE0000000, 0)
            self.changed(Half, Single, how, Half.least_normal, 0x38800000, 0)
            self.changed(Single, Double, how, Single.least_normal | Single.minus, 0xB810000000000000, 0)


class Small(Hand):
    def test_small_halves_that_come_in(self):
        # They never count as zeros, and are small in no other format.
        for how in range(16):
            self.changed(Half, Single, how, 0x0001, 0x33800000, 2)
            self.changed(Half, Single, how, 0x83FF, 0xB87FC000, 2)
            self.changed(Half, Double, how, 0x0001, 0x3E70000000000000, 2)
            self.changed(Half, Double, how, 0x83FF, 0xBF0FF80000000000, 2)

    def test_small_singles_that_come_in(self):
        for how in (0, 1, 2, 3, 8, 9, 10, 11):
            self.changed(Single, Double, how, 0x00000001, 0x36A0000000000000, 2)
            self.changed(Single, Double, how, 0x807FFFFF, 0xB80FFFFFC0000000, 2)
        for flush in (0, FLUSH):
            for a in (Single.least, Single.greatest_small):
                self.rounded(Single, Half, a, (0, 50), (0, 50), (1, 50), (0, 50), flush)

    def test_small_doubles_that_come_in(self):
        for a in (Double.least, Double.greatest_small):
            self.rounded(Double, Single, a, (0, 50), (0, 50), (1, 50), (0, 50))
            self.rounded(Double, Single, a, (0, 50), (0, 50), (0, 50), (0, 50), FLUSH)
            for flush in (0, FLUSH):
                self.rounded(Double, Half, a, (0, 50), (0, 50), (1, 50), (0, 50), flush)

    def test_that_count_as_zeros(self):
        for n in (Single, Double):
            for o in FORMATS:
                if o is not n:
                    for how in (4, 5, 6, 7, 12, 13, 14, 15):
                        for a in (n.least, n.greatest_small):
                            self.changed(n, o, how, a, 0, 0)
                            self.changed(n, o, how, a | n.minus, o.minus, 0)

    def test_exact_small_results(self):
        for how in range(16):
            # Told as halves they are never made zeros.
            self.changed(Single, Half, how, 0x33800000, 0x0001, 0)
            self.changed(Single, Half, how, 0xB87FC000, 0x83FF, 0)
            self.changed(Double, Half, how, 0x3E70000000000000, 0x0001, 0)
            self.changed(Double, Half, how, 0xBF0FF80000000000, 0x83FF, 0)
        for how in range(16):
            flushed = how & FLUSH
            self.changed(Double, Single, how, 0x36A0000000000000, 0 if flushed else 1, 48 if flushed else 0)
            self.changed(Double, Single, how, 0xB80FFFFFC0000000, 0x80000000 if flushed else 0x807FFFFF,
                         48 if flushed else 0)


class Narrowed(Hand):
    def test_ties_of_near(self):
        # 1 and a half of the last digit, 1 and three halves, and just beside them.
        for n, o, half_digit in ((Single, Half, 1 << 12), (Double, Half, 1 << 41), (Double, Single, 1 << 28)):
            one, last = n.one, 2 * half_digit
            self.rounded(n, o, one + half_digit, (o.one, 32), (o.one, 32), (o.one + 1, 32), (o.one, 32))
            self.rounded(n, o, one + half_digit + 1, (o.one + 1, 32), (o.one, 32), (o.one + 1, 32), (o.one, 32))
            self.rounded(n, o, one + half_digit - 1, (o.one, 32), (o.one, 32), (o.one + 1, 32), (o.one, 32))
            self.rounded(n, o, one + last + half_digit, (o.one + 2, 32), (o.one + 1, 32), (o.one + 2, 32),
                         (o.one + 1, 32))
            self.rounded(n, o, one + last, (o.one + 1, 0), (o.one + 1, 0), (o.one + 1, 0), (o.one + 1, 0))

    def test_once_and_not_by_way_of_single(self):
        # By way of single it would be a tie, and that 1.
        self.changed(Double, Half, NEAR, 0x3FF0020000000001, 0x3C01, 32)
        self.changed(Double, Half, NEAR, 0x3FF005FFFFFFFFFF, 0x3C01, 32)

    def test_overflow(self):
        # The greatest one and half a last digit; a bit less; twice the greatest power; the greatest one's neighbour.
        for n, o, tie, beyond in ((Single, Half, 0x477FF000, 0x47800000),
                                  (Double, Half, 0x40EFFE0000000000, 0x40F0000000000000),
                                  (Double, Single, 0x47EFFFFFF0000000, 0x47F0000000000000)):
            for flush in (0, FLUSH):
                top, end = o.greatest, o.infinite
                self.rounded(n, o, tie, (end, 40), (top, 32), (end, 40), (top, 32), flush)
                self.rounded(n, o, tie - 1, (top, 32), (top, 32), (end, 40), (top, 32), flush)
                self.rounded(n, o, beyond, (end, 40), (top, 40), (end, 40), (top, 40), flush)
                self.rounded(n, o, n.greatest, (end, 40), (top, 40), (end, 40), (top, 40), flush)

    def test_underflow(self):
        # Half of the least small one, a bit more, three halves of it.
        for n, o, half_least, three_halves in ((Single, Half, 0x33000000, 0x33C00000),
                                               (Double, Half, 0x3E60000000000000, 0x3E78000000000000),
                                               (Double, Single, 0x3690000000000000, 0x36A8000000000000)):
            self.rounded(n, o, half_least, (0, 48), (0, 48), (1, 48), (0, 48))
            self.rounded(n, o, half_least + 1, (1, 48), (0, 48), (1, 48), (0, 48))
            self.rounded(n, o, three_halves, (2, 48), (1, 48), (2, 48), (1, 48))
            self.rounded(n, o, n.least_normal, (0, 48), (0, 48), (1, 48), (0, 48))
            if o is Half:
                self.rounded(n, o, three_halves, (2, 48), (1, 48), (2, 48), (1, 48), FLUSH)
            else:
                self.rounded(n, o, three_halves, (0, 48), (0, 48), (0, 48), (0, 48), FLUSH)

    def test_just_below_the_least_normal_one(self):
        for n, o, of_p_digits, tie in ((Single, Half, 0x387FE000, 0x387FF000),
                                       (Double, Half, 0x3F0FFC0000000000, 0x3F0FFE0000000000),
                                       (Double, Single, 0x380FFFFFE0000000, 0x380FFFFFF0000000)):
            normal, small = o.least_normal, o.greatest_small
            # 2^emin (1 - 2^-p): tiny, though near and up make it 2^emin.
            self.rounded(n, o, of_p_digits, (normal, 48), (small, 48), (normal, 48), (small, 48))
            # Half way from there to 2^emin: to p digits that's 2^emin, which is not tiny.
            self.rounded(n, o, tie, (normal, 32), (small, 48), (normal, 32), (small, 48))
            self.rounded(n, o, tie - 1, (normal, 48), (small, 48), (normal, 32), (small, 48))
            if o is Single:
                self.rounded(n, o, of_p_digits, (0, 48), (0, 48), (0, 48), (0, 48), FLUSH)
                self.rounded(n, o, tie, (normal, 32), (0, 48), (normal, 32), (0, 48), FLUSH)
            else:
                self.rounded(n, o, tie, (normal, 32), (small, 48), (normal, 32), (small, 48), FLUSH)


class NoNumbers(Hand):
    def test_to_a_wider_one(self):
        for how in range(16):
            self.changed(Half, Single, how, 0x7E05, 0x7FC0A000, 0)
            self.changed(Half, Single, how, 0xFC05, 0xFFC0A000, 1)
            self.changed(Half, Double, how, 0xFFFF, 0xFFFFFC0000000000, 0)
            self.changed(Half, Double, how, 0x7C01, 0x7FF8040000000000, 1)
            self.changed(Single, Double, how, 0x7FC00001, 0x7FF8000020000000, 0)
            self.changed(Single, Double, how, 0xFFBFFFFF, 0xFFFFFFFFE0000000, 1)

    def test_to_a_narrower_one(self):
        for how in range(16):
            self.changed(Single, Half, how, 0x7FC0A000, 0x7E05, 0)
            self.changed(Single, Half, how, 0xFFC01FFF, 0xFE00, 0)
            self.changed(Single, Half, how, 0x7F800001, 0x7E00, 1)
            self.changed(Single, Half, how, 0xFFBFFFFF, 0xFFFF, 1)
            self.changed(Double, Half, how, 0x7FF8140000000000, 0x7E05, 0)
            self.changed(Double, Half, how, 0xFFF0000000000001, 0xFE00, 1)
            self.changed(Double, Single, how, 0x7FF80000A0000000, 0x7FC00005, 0)
            self.changed(Double, Single, how, 0x7FF800001FFFFFFF, 0x7FC00000, 0)
            self.changed(Double, Single, how, 0xFFF7FFFFFFFFFFFF, 0xFFFFFFFF, 1)

    def test_the_empty_one(self):
        for n, o in PAIRS:
            self.changed(n, o, 0, n.empty, o.empty, 0)


class BesideTheModel(unittest.TestCase):
    def change(self, *handed):
        self.assertEqual(change(*handed), model_changed.change(*handed), handed)

    def test_edges(self):
        for n, o in PAIRS:
            for a in edges(n.f):
                for how in range(16):
                    self.change(n.f, o.f, how, a)

    def test_every_half(self):
        sampler = Sampler(120)
        for a in range(1 << 16):
            self.change(0, 1, sampler.below(16), a)
            self.change(0, 2, sampler.below(16), a)

    def test_many_numbers(self):
        for n, o in PAIRS:
            sampler = Sampler(130 + 3 * n.f + o.f)
            for k in range(5000):
                self.change(n.f, o.f, sampler.below(16), sampler.float_bits(n.f))

    def test_beside_the_numbers_of_a_narrower_one(self):
        # Each of the edges of the narrower one, the middles between its numbers, and what lies just beside them.
        for o, n in WIDER:
            sampler = Sampler(140 + 3 * n.f + o.f)
            for k in range(5000):
                a = Float(o.f, sampler.pick([sampler.pick(edges(o.f)), sampler.float_bits(o.f)]))
                if a.kind not in ("small", "normal"):
                    continue
                last_digit = two_to(max(model.exponent_of(a.size), EMIN[o.f]) - model.DIGITS[o.f] + 1)
                near = number(n.f, a.value + sampler.pick([-2, -1, 0, 1, 2]) * last_digit / 4)
                self.change(n.f, o.f, sampler.below(16), max(0, near - 1 + sampler.below(3)))


class ThereAndBack(unittest.TestCase):
    def test_to_a_wider_one_and_back(self):
        for n, o in WIDER:
            sampler = Sampler(150 + 3 * n.f + o.f)
            values = edges(n.f) + [sampler.float_bits(n.f) for k in range(5000)]
            for a in range(1 << 16) if n is Half else values:
                if Float(n.f, a).kind != "loud":
                    self.comes_back(n.f, o.f, sampler.below(4), sampler.below(4), a)

    def comes_back(self, f, g, how, back_how, a):
        there = change(f, g, how, a)
        back = change(g, f, back_how, there[1])
        self.assertEqual((there[2], back), (2 if Float(f, a).kind == "small" else 0, [0, a, 0]), (f, g, how, hex(a)))

    def test_by_all_three(self):
        for a in range(1 << 16):
            if Float(0, a).kind != "loud":
                single = change(0, 1, 0, a)[1]
                double = change(1, 2, 0, single)[1]
                self.assertEqual(double, change(0, 2, 0, a)[1])
                self.assertEqual(change(2, 0, 0, double)[1], a)

    def test_loud_ones_come_back_quiet(self):
        for n, o in WIDER:
            self.assertEqual(change(o.f, n.f, 0, change(n.f, o.f, 0, n.loud)[1]), [0, n.quieted, 0])


if __name__ == "__main__":
    unittest.main()
