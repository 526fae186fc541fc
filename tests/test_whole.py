"""to_whole and of_whole: each kind and format, by hand and beside the model; S4, there and back."""

import unittest

from hand import CUT, DOWN, Double, FLUSH, FORMATS, Half, NEAR, Single, UP
import model
from model import Float, Sampler, edges, number
import model_changed
from model_changed import KINDS, ends
from roundedonce.floats import of_whole, to_whole

BEYOND = {0: 0x80000000, 1: 0xFFFFFFFF, 2: 0x8000000000000000, 3: 0xFFFFFFFFFFFFFFFF}
SIGNED, UNSIGNED = (0, 2), (1, 3)
CUTS = (1, 2, 255, 256, 1 << 31, 4294967295)
GREATEST_64 = 18446744073709551615


class Hand(unittest.TestCase):
    def whole(self, n, kind, how, a, bits, flags, cut=0):
        self.assertEqual(to_whole(n.f, kind, cut, how, a), [0, bits, flags], (n, kind, cut, how, hex(a)))

    def beyond(self, n, kind, how, a, cut=0):
        self.whole(n, kind, how, a, BEYOND[kind], 1, cut)

    def rounded(self, n, kind, a, near, down, up, cut):
        """The whole number by each rounding, None if it's beyond; none of them is a itself."""
        for how, value in ((NEAR, near), (DOWN, down), (UP, up), (CUT, cut)):
            self.told(n, kind, how, a, value, 0)
            # With cut it's cut, whatever the rounding.
            for more in CUTS:
                self.told(n, kind, how, a, cut, more)

    def told(self, n, kind, how, a, value, cut):
        if value is None:
            self.beyond(n, kind, how, a, cut)
        else:
            self.whole(n, kind, how, a, value % (1 << (32 if kind < 2 else 64)), 32, cut)


class ToWhole(Hand):
    def test_ordinary(self):
        for n in FORMATS:
            for how in range(16):
                for cut in (0, 1, 4294967295):
                    for a, value in ((n.one, 1), (n.two, 2), (n.three, 3), (n.ten, 10)):
                        for kind in KINDS:
                            self.whole(n, kind, how, a, value, 0, cut)
                        self.whole(n, 0, how, a | n.minus, (1 << 32) - value, 0, cut)
                        self.whole(n, 2, how, a | n.minus, (1 << 64) - value, 0, cut)
                        for kind in UNSIGNED:
                            self.beyond(n, kind, how, a | n.minus, cut)

    def test_ties(self):
        for n in FORMATS:
            two_and_half = n.two + (n.one_and_half - n.one) // 2
            for kind in KINDS:
                self.rounded(n, kind, n.half, 0, 0, 1, 0)
                self.rounded(n, kind, n.one_and_half, 2, 1, 2, 1)
                self.rounded(n, kind, two_and_half, 2, 2, 3, 2)
                self.rounded(n, kind, two_and_half + 1, 3, 2, 3, 2)
                self.rounded(n, kind, n.one_and_half - 1, 1, 1, 2, 1)
            for kind in SIGNED:
                self.rounded(n, kind, n.half | n.minus, 0, -1, 0, 0)
                self.rounded(n, kind, n.one_and_half | n.minus, -2, -2, -1, -1)
                self.rounded(n, kind, two_and_half | n.minus, -2, -3, -2, -2)
                self.rounded(n, kind, n.half + 1 | n.minus, -1, -1, 0, 0)

    def test_a_little_below_zero_without_sign(self):
        # Behind the rounding it may be 0, which the kind has.
        for n in FORMATS:
            for kind in UNSIGNED:
                self.rounded(n, kind, n.half | n.minus, 0, None, 0, 0)
                self.rounded(n, kind, n.half + 1 | n.minus, None, None, 0, 0)
                self.rounded(n, kind, n.one - 1 | n.minus, None, None, 0, 0)
                self.rounded(n, kind, n.one_and_half | n.minus, None, None, None, None)

    def test_zeros_and_small_ones(self):
        for n in FORMATS:
            for kind in KINDS:
                for how in range(16):
                    for cut in (0, *CUTS):
                        self.whole(n, kind, how, 0, 0, 0, cut)
                        self.whole(n, kind, how, n.minus, 0, 0, cut)
                for a in (n.least, n.greatest_small, n.least_normal):
                    self.rounded(n, kind, a, 0, 0, 1, 0)
                    self.rounded(n, kind, a | n.minus, 0, None if kind in UNSIGNED else -1, 0, 0)
                    self.whole(n, kind, FLUSH, a, 0, 32)
                    self.whole(n, kind, FLUSH + UP, a, 1, 32)

    def test_small_ones_that_count_as_zeros(self):
        for n in (Single, Double):
            for kind in KINDS:
                for how in (4, 5, 6, 7, 12, 15):
                    for cut in (0, 1):
                        for a in (n.least, n.greatest_small):
                            self.whole(n, kind, how, a, 0, 0, cut)
                            self.whole(n, kind, how, a | n.minus, 0, 0, cut)
                    self.whole(n, kind, how, n.least_normal, 1 if how & 3 == UP else 0, 32)

    def test_they_do_not_of_half(self):
        for kind in KINDS:
            for how in range(16):
                self.whole(Half, kind, how, 1, 1 if how & 3 == UP else 0, 32)
                self.whole(Half, kind, how, 1, 0, 32, 1)

    def test_infinite_ones_and_no_numbers(self):
        for n in FORMATS:
            for kind in KINDS:
                for how in range(16):
                    for cut in (0, 1):
                        for a in (n.infinite, n.quiet, n.loud, n.empty):
                            self.beyond(n, kind, how, a, cut)
                            self.beyond(n, kind, how, a | n.minus, cut)

    def test_the_ends_of_half(self):
        for how in range(16):
            for kind in KINDS:
                self.whole(Half, kind, how, Half.greatest, 65504, 0)
            self.whole(Half, 0, how, 0xFBFF, 0xFFFF0020, 0)
            self.whole(Half, 2, how, 0xFBFF, 0xFFFFFFFFFFFF0020, 0)
            self.beyond(Half, 1, how, 0xFBFF)
            self.beyond(Half, 3, how, 0xFBFF)

    def test_the_ends_of_single(self):
        n = Single
        for how in range(16):
            self.whole(n, 0, how, 0x4EFFFFFF, 2147483520, 0)
            self.beyond(n, 0, how, 0x4F000000)
            self.whole(n, 0, how, 0xCF000000, 0x80000000, 0)
            self.beyond(n, 0, how, 0xCF000001)
            self.whole(n, 1, how, 0x4F000000, 0x80000000, 0)
            self.whole(n, 1, how, 0x4F7FFFFF, 4294967040, 0)
            self.beyond(n, 1, how, 0x4F800000)
            self.whole(n, 2, how, 0x5EFFFFFF, 0x7FFFFF8000000000, 0)
            self.beyond(n, 2, how, 0x5F000000)
            self.whole(n, 2, how, 0xDF000000, 0x8000000000000000, 0)
            self.beyond(n, 2, how, 0xDF000001)
            self.whole(n, 3, how, 0x5F7FFFFF, 0xFFFFFF0000000000, 0)
            self.beyond(n, 3, how, 0x5F800000)
            for kind in KINDS:
                self.beyond(n, kind, how, n.greatest)
                self.beyond(n, kind, how, n.greatest | n.minus)

    def test_the_ends_of_double(self):
        n = Double
        for how in range(16):
            self.whole(n, 0, how, 0x41DFFFFFFFC00000, 0x7FFFFFFF, 0)
            self.beyond(n, 0, how, 0x41E0000000000000)
            self.whole(n, 0, how, 0xC1E0000000000000, 0x80000000, 0)
            self.beyond(n, 0, how, 0xC1E0000000200000)
            self.whole(n, 1, how, 0x41EFFFFFFFE00000, 0xFFFFFFFF, 0)
            self.beyond(n, 1, how, 0x41F0000000000000)
            self.whole(n, 2, how, 0x43DFFFFFFFFFFFFF, 0x7FFFFFFFFFFFFC00, 0)
            self.beyond(n, 2, how, 0x43E0000000000000)
            self.whole(n, 2, how, 0xC3E0000000000000, 0x8000000000000000, 0)
            self.beyond(n, 2, how, 0xC3E0000000000001)
            self.whole(n, 3, how, 0x43EFFFFFFFFFFFFF, 0xFFFFFFFFFFFFF800, 0)
            self.beyond(n, 3, how, 0x43F0000000000000)
            for kind in KINDS:
                self.beyond(n, kind, how, n.greatest)
                self.beyond(n, kind, how, n.greatest | n.minus)

    def test_beyond_before_the_rounding_and_behind_it(self):
        n, top, low, wide = Double, 0x7FFFFFFF, -0x80000000, 0xFFFFFFFF
        # 2^31 - 1/2, and a bit less; -2^31 - 1/2, and a bit more in size; 2^32 - 1/2.
        self.rounded(n, 0, 0x41DFFFFFFFE00000, None, top, None, top)
        self.rounded(n, 0, 0x41DFFFFFFFDFFFFF, top, top, None, top)
        self.rounded(n, 0, 0xC1E0000000100000, low, None, low, low)
        self.rounded(n, 0, 0xC1E0000000100001, None, None, low, low)
        self.rounded(n, 1, 0x41EFFFFFFFF00000, None, wide, None, wide)
        self.rounded(n, 1, 0x41EFFFFFFFEFFFFF, wide, wide, None, wide)
        self.rounded(n, 1, 0x41DFFFFFFFE00000, 0x80000000, top, 0x80000000, top)
        self.rounded(n, 2, 0x41EFFFFFFFF00000, 1 << 32, wide, 1 << 32, wide)


class OfWhole(unittest.TestCase):
    def made(self, kind, n, how, v, bits, flags):
        self.assertEqual(of_whole(kind, n.f, how, v), [0, bits, flags], (kind, n, how, hex(v)))

    def rounded(self, kind, n, v, near, down, up, cut):
        for how, (bits, flags) in ((NEAR, near), (DOWN, down), (UP, up), (CUT, cut)):
            for more in (0, 4, 8, 12):
                self.made(kind, n, how + more, v, bits, flags)

    def exact(self, kind, n, v, bits):
        for how in range(16):
            self.made(kind, n, how, v, bits, 0)

    def test_zero_is_plus_zero(self):
        for n in FORMATS:
            for kind in KINDS:
                self.exact(kind, n, 0, 0)

    def test_ordinary(self):
        for n in FORMATS:
            for value, bits in ((1, n.one), (2, n.two), (3, n.three), (10, n.ten)):
                for kind in KINDS:
                    self.exact(kind, n, value, bits)
                self.exact(0, n, (1 << 32) - value, bits | n.minus)
                self.exact(2, n, (1 << 64) - value, bits | n.minus)

    def test_bits_above_the_lower_32(self):
        for n in FORMATS:
            for kind in (0, 1):
                for above in (1 << 32, 1 << 63, 0xFFFFFFFF00000000, 0x1234567800000000):
                    self.exact(kind, n, above, 0)
                    self.exact(kind, n, above + 3, n.three)
            self.exact(0, n, GREATEST_64, n.one | n.minus)
            self.exact(0, n, 0x00000007FFFFFFFF, n.one | n.minus)
        self.exact(1, Double, GREATEST_64, 0x41EFFFFFFFE00000)
        self.exact(2, Double, 1 << 32, 0x41F0000000000000)
        self.exact(3, Single, 1 << 63, 0x5F000000)

    def test_the_ends_of_the_kinds(self):
        s, d = Single, Double
        self.exact(0, s, 0x80000000, 0xCF000000)
        self.exact(0, d, 0x80000000, 0xC1E0000000000000)
        self.rounded(0, s, 0x7FFFFFFF, (0x4F000000, 32), (0x4EFFFFFF, 32), (0x4F000000, 32), (0x4EFFFFFF, 32))
        self.exact(0, d, 0x7FFFFFFF, 0x41DFFFFFFFC00000)
        self.rounded(1, s, 0xFFFFFFFF, (0x4F800000, 32), (0x4F7FFFFF, 32), (0x4F800000, 32), (0x4F7FFFFF, 32))
        self.exact(1, d, 0xFFFFFFFF, 0x41EFFFFFFFE00000)
        self.exact(2, s, 1 << 63, 0xDF000000)
        self.exact(2, d, 1 << 63, 0xC3E0000000000000)
        self.rounded(2, s, (1 << 63) - 1, (0x5F000000, 32), (0x5EFFFFFF, 32), (0x5F000000, 32), (0x5EFFFFFF, 32))
        high, low = 0x43E0000000000000, 0x43DFFFFFFFFFFFFF
        self.rounded(2, d, (1 << 63) - 1, (high, 32), (low, 32), (high, 32), (low, 32))
        self.rounded(3, s, GREATEST_64, (0x5F800000, 32), (0x5F7FFFFF, 32), (0x5F800000, 32), (0x5F7FFFFF, 32))
        high, low = 0x43F0000000000000, 0x43EFFFFFFFFFFFFF
        self.rounded(3, d, GREATEST_64, (high, 32), (low, 32), (high, 32), (low, 32))

    def test_below_zero(self):
        high, low = 0xDF000000, 0xDEFFFFFF
        # -(2^63 - 1): down is away from zero here.
        self.rounded(2, Single, (1 << 63) + 1, (high, 32), (high, 32), (low, 32), (low, 32))
        self.rounded(0, Single, 0x80000001, (0xCF000000, 32), (0xCF000000, 32), (0xCEFFFFFF, 32), (0xCEFFFFFF, 32))

    def test_ties(self):
        for n, power, bits, kinds in ((Half, 11, 0x6800, KINDS), (Single, 24, 0x4B800000, KINDS),
                                      (Double, 53, 0x4340000000000000, (2, 3))):
            base = 1 << power
            for kind in kinds:
                self.exact(kind, n, base, bits)
                self.exact(kind, n, base + 2, bits + 1)
                self.exact(kind, n, base - 1, bits - 1)
                self.rounded(kind, n, base + 1, (bits, 32), (bits, 32), (bits + 1, 32), (bits, 32))
                self.rounded(kind, n, base + 3, (bits + 2, 32), (bits + 1, 32), (bits + 2, 32), (bits + 1, 32))
                # Of twice the base the last digit is 4.
                upper = bits + (n.two - n.one)
                self.rounded(kind, n, 2 * base + 3, (upper + 1, 32), (upper, 32), (upper + 1, 32), (upper, 32))
                self.rounded(kind, n, 2 * base + 1, (upper, 32), (upper, 32), (upper + 1, 32), (upper, 32))

    def test_overflow_of_half(self):
        top, end = Half.greatest, Half.infinite
        for kind in KINDS:
            self.exact(kind, Half, 65504, top)
            self.rounded(kind, Half, 65505, (top, 32), (top, 32), (end, 40), (top, 32))
            self.rounded(kind, Half, 65519, (top, 32), (top, 32), (end, 40), (top, 32))
            self.rounded(kind, Half, 65520, (end, 40), (top, 32), (end, 40), (top, 32))
            self.rounded(kind, Half, 65535, (end, 40), (top, 32), (end, 40), (top, 32))
            self.rounded(kind, Half, 65536, (end, 40), (top, 40), (end, 40), (top, 40))
        minus_top, minus_end = 0xFBFF, 0xFC00
        for kind, full in ((0, 1 << 32), (2, 1 << 64)):
            self.rounded(kind, Half, full // 2, (minus_end, 40), (minus_end, 40), (minus_top, 40), (minus_top, 40))
            self.rounded(kind, Half, full - 65519, (minus_top, 32), (minus_end, 40), (minus_top, 32), (minus_top, 32))
            self.rounded(kind, Half, full // 2 - 1, (end, 40), (top, 40), (end, 40), (top, 40))
        self.rounded(1, Half, 0xFFFFFFFF, (end, 40), (top, 40), (end, 40), (top, 40))
        self.rounded(3, Half, GREATEST_64, (end, 40), (top, 40), (end, 40), (top, 40))


def whole_bits(sampler):
    """Whole numbers of all lengths, about powers of two and about the ends of the kinds."""
    length = sampler.below(65)
    about = (1 << length) - 4 + sampler.below(8)
    value = sampler.pick([sampler.below(1 << 64) >> (64 - length), about, about << sampler.below(40)])
    return sampler.pick([value, -value]) % (1 << 64)


def whole_sized(sampler, f):
    """Floats of sizes from 1/8 on to just beyond the kinds, and others."""
    exponent = min(model.EMAX[f] - 3 + sampler.below(70), 2 * model.EMAX[f])
    sized = model.zero(f, sampler.below(2)) + (exponent << (model.DIGITS[f] - 1)) + sampler.fraction_bits(f)
    return sampler.pick([sized, sized, sampler.float_bits(f)])


class BesideTheModel(unittest.TestCase):
    def to_whole(self, *handed):
        self.assertEqual(to_whole(*handed), model_changed.to_whole(*handed), handed)

    def of_whole(self, *handed):
        self.assertEqual(of_whole(*handed), model_changed.of_whole(*handed), handed)

    def test_edges(self):
        for f in model.FORMATS:
            for a in edges(f):
                for kind in KINDS:
                    for how in range(16):
                        for cut in (0, 1, 4294967295):
                            self.to_whole(f, kind, cut, how, a)

    def test_every_half(self):
        sampler = Sampler(160)
        for a in range(1 << 16):
            self.to_whole(0, sampler.below(4), sampler.pick([0, 0, 9]), sampler.below(16), a)

    def test_floats(self):
        for f in model.FORMATS:
            sampler = Sampler(170 + f)
            for k in range(15000):
                cut = sampler.pick([0, 0, 1, 4294967295])
                self.to_whole(f, sampler.below(4), cut, sampler.below(16), whole_sized(sampler, f))

    def test_about_the_ends(self):
        for f in (1, 2):
            sampler = Sampler(180 + f)
            for kind in KINDS:
                for end in ends(kind):
                    nearest = model.value_result(f, 0, model.Fraction(end), 0)[0]
                    for step in range(-6, 7):
                        for how in range(16):
                            self.to_whole(f, kind, sampler.below(2), how, max(0, nearest + step))

    def test_whole_numbers(self):
        for g in model.FORMATS:
            sampler = Sampler(190 + g)
            for k in range(15000):
                self.of_whole(sampler.below(4), g, sampler.below(16), whole_bits(sampler))

    def test_each_kind_about_its_ends(self):
        for g in model.FORMATS:
            for kind in KINDS:
                for end in (0, 1 << 31, 1 << 32, 1 << 63, 1 << 64):
                    for step in range(-4, 5):
                        for how in range(16):
                            self.of_whole(kind, g, how, (end + step) % (1 << 64))

    def test_every_whole_number_of_half(self):
        sampler = Sampler(195)
        for value in range(65600):
            kind = sampler.below(4)
            self.of_whole(kind, 0, sampler.below(16), value if kind % 2 else sampler.pick([value, (1 << 64) - value]))


class ThereAndBack(unittest.TestCase):
    def test_of_whole_and_back(self):
        exact = 0
        for g in model.FORMATS:
            sampler = Sampler(200 + g)
            for k in range(12000):
                kind, how, v = sampler.below(4), sampler.below(16), whole_bits(sampler)
                there = of_whole(kind, g, how, v)
                if there[2] == 0:
                    exact += 1
                    back = to_whole(g, kind, sampler.below(2), sampler.below(16), there[1])
                    self.assertEqual(back, [0, v % (1 << KINDS[kind][0]), 0], (kind, g, how, hex(v)))
        self.assertGreater(exact, 9000)

    def test_to_whole_and_back(self):
        exact = 0
        for f in model.FORMATS:
            sampler = Sampler(210 + f)
            for k in range(12000):
                kind, how, a = sampler.below(4), sampler.below(16), whole_sized(sampler, f)
                there = to_whole(f, kind, sampler.below(2), how, a)
                if there[2] == 0:
                    exact += 1
                    # All zeros are told as 0, which is plus zero.
                    zero = model.come_in(f, how, a).kind == "zero"
                    back = of_whole(kind, f, sampler.below(16), there[1])
                    self.assertEqual(back, [0, 0 if zero else a, 0], (f, kind, how, hex(a)))
        self.assertGreater(exact, 3000)

    def test_every_half(self):
        for a in range(1 << 16):
            for kind in KINDS:
                there = to_whole(0, kind, 0, 0, a)
                if there[2] == 0 and Float(0, a).kind != "zero":
                    self.assertEqual(of_whole(kind, 0, 0, there[1]), [0, a, 0])

    def test_numbers_told_by_their_values(self):
        for g in model.FORMATS:
            for value in list(range(-2048, 2049)) + [2050, 4096, 65504, -65504]:
                bits = number(g, value)
                for kind in KINDS:
                    if ends(kind)[0] <= value:
                        told = value % (1 << KINDS[kind][0])
                        self.assertEqual(to_whole(g, kind, 0, 0, bits), [0, told, 0])
                        self.assertEqual(of_whole(kind, g, 0, told), [0, bits, 0])


if __name__ == "__main__":
    unittest.main()
