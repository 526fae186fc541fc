"""fused: the edges that the document names by hand, and many numbers beside the model."""

import unittest

from hand import CUT, DOWN, Double, FLUSH, FORMATS, Half, NEAR, ROUNDINGS, Single, UP
import model
from model import Sampler, edges, number, two_to
import model_compared
from roundedonce.floats import fused

SORTS = range(4)


class Hand(unittest.TestCase):
    def fused(self, n, sort, how, a, b, c, bits, flags):
        self.assertEqual(fused(n.f, sort, how, a, b, c), [0, bits, flags], (n, sort, how, hex(a), hex(b), hex(c)))


class Ordinary(Hand):
    def test_each_sort(self):
        sevens = ((Half, 0x4500, 0x4700), (Single, 0x40A00000, 0x40E00000),
                  (Double, 0x4014000000000000, 0x401C000000000000))
        for n, five, seven in sevens:
            for how in range(16):
                self.fused(n, 0, how, n.two, n.three, n.one, seven, 0)
                self.fused(n, 1, how, n.two, n.three, n.one, five, 0)
                self.fused(n, 2, how, n.two, n.three, n.one, five | n.minus, 0)
                self.fused(n, 3, how, n.two, n.three, n.one, seven | n.minus, 0)
                self.fused(n, 0, how, n.two, n.three | n.minus, n.one, five | n.minus, 0)
                self.fused(n, 0, how, n.two | n.minus, n.three, n.one | n.minus, seven | n.minus, 0)

    def test_what_the_product_alone_would_lose(self):
        # (1 + u) (1 + u) - (1 + 2 u) is u u, u the last digit of 1.
        for n, square in ((Half, 0x0010), (Single, 0x28800000), (Double, 0x3970000000000000)):
            for how in ROUNDINGS:
                self.fused(n, 1, how, n.one + 1, n.one + 1, n.one + 2, square, 0)
                self.fused(n, 2, how, n.one + 1, n.one + 1, n.one + 2, square | n.minus, 0)

    def test_once_and_not_twice(self):
        for n in FORMATS:
            # 1 + 2 u + u u + u / 2: the product rounded first would leave a tie, and that 1 + 2 u.
            self.fused(n, 0, NEAR, n.one + 1, n.one + 1, n.half_digit, n.one + 3, 32)
            self.fused(n, 3, NEAR, n.one + 1, n.one + 1, n.half_digit, n.one + 3 | n.minus, 32)

    def test_a_product_beyond_the_format(self):
        for n in FORMATS:
            for how in range(16):
                self.fused(n, 1, how, n.greatest, n.two, n.greatest, n.greatest, 0)
                self.fused(n, 2, how, n.greatest, n.two, n.greatest, n.greatest | n.minus, 0)


class Results(Hand):
    def test_ties_of_near(self):
        for n in FORMATS:
            for sort, s in ((0, 0), (3, n.minus)):
                self.fused(n, sort, NEAR, n.one, n.one, n.half_digit, n.one | s, 32)
                self.fused(n, sort, NEAR, n.one + 1, n.one, n.half_digit, n.one + 2 | s, 32)
                self.fused(n, sort, NEAR, n.one, n.one, n.half_digit + 1, n.one + 1 | s, 32)
                self.fused(n, sort, NEAR, n.one, n.one + 1, n.half_digit - 1, n.one + 1 | s, 32)

    def test_a_far_smaller_c(self):
        for n in FORMATS:
            for s, outward, inward in ((0, UP, DOWN), (n.minus, DOWN, UP)):
                for how in ROUNDINGS:
                    more = n.one + 1 if how == outward else n.one
                    less = n.one - 1 if how in (inward, CUT) else n.one
                    self.fused(n, 0, how, n.one | s, n.one, n.least_normal | s, more | s, 32)
                    self.fused(n, 1, how, n.one | s, n.one, n.least_normal | s, less | s, 32)
                    self.fused(n, 2, how, n.one | n.minus ^ s, n.one, n.least_normal | s, more | s, 32)
                    self.fused(n, 3, how, n.one | n.minus ^ s, n.one, n.least_normal | s, less | s, 32)
                    self.fused(n, 0, how, n.one | s, n.one, n.least | s, more | s, 34)

    def test_a_far_greater_c(self):
        for n in FORMATS:
            tiny = n.least_normal
            for how in ROUNDINGS:
                more, flags = (n.infinite, 40) if how == UP else (n.greatest, 32)
                less = n.greatest - 1 if how in (DOWN, CUT) else n.greatest
                self.fused(n, 0, how, tiny, tiny, n.greatest, more, flags)
                self.fused(n, 2, how, tiny, tiny, n.greatest, less, 32)

    def test_overflow(self):
        for n in FORMATS:
            for s, outward in ((0, UP), (n.minus, DOWN)):
                for how in ROUNDINGS:
                    bits = n.infinite if how in (NEAR, outward) else n.greatest
                    for flush in (0, FLUSH):
                        self.fused(n, 0, how + flush, n.greatest | s, n.greatest, 0, bits | s, 40)
                        self.fused(n, 1, how + flush, n.one | s, n.greatest, n.greatest | n.minus ^ s, bits | s, 40)
                        self.fused(n, 2, how + flush, n.two | n.minus ^ s, n.greatest, n.one, bits | s, 40)
                        self.fused(n, 3, how + flush, n.two | n.minus ^ s, n.greatest, n.one, bits | s, 40)

    def test_underflow(self):
        for n in FORMATS:
            for s, outward in ((0, UP), (n.minus, DOWN)):
                for how in ROUNDINGS:
                    one_more = 1 if how == outward else 0
                    self.fused(n, 0, how, n.least_normal | s, n.least_normal, 0, one_more | s, 48)
                    self.fused(n, 0, how, n.least_normal | s, n.least_normal, 1 | s, one_more + 1 | s, 50)
                    self.fused(n, 0, how, 1 | s, n.half, 0, one_more | s, 50)
                    self.fused(n, 3, how, 1 | s, n.half | n.minus, n.minus, one_more | s, 50)

    def test_exact_small_results(self):
        for n in FORMATS:
            for how in ROUNDINGS:
                self.fused(n, 1, how, n.least_normal + 1, n.one, n.least_normal, 1, 0)
                self.fused(n, 0, how, n.least_normal, n.half, 0, n.least_normal >> 1, 0)
                self.fused(n, 0, how, n.greatest_small, n.one, n.least, n.least_normal, 2)

    def test_small_results_are_zeros(self):
        for n in (Single, Double):
            for how in range(8, 12):
                self.fused(n, 1, how, n.least_normal + 1, n.one, n.least_normal, 0, 48)
                self.fused(n, 2, how, n.least_normal + 1, n.one, n.least_normal, n.minus, 48)
                self.fused(n, 0, how, n.least_normal, n.half, 0, 0, 48)
                self.fused(n, 3, how, n.least_normal, n.least_normal, 0, n.minus, 48)
                self.fused(n, 0, how, 0, n.one, n.least | n.minus, n.minus, 50)
                self.fused(n, 0, how, n.greatest_small, n.one, n.least, n.least_normal, 2)

    def test_they_are_not_of_half(self):
        for how in range(8, 16):
            self.fused(Half, 1, how, 0x0401, Half.one, 0x0400, 1, 0)
            self.fused(Half, 0, how, 0x0400, Half.half, 0, 0x0200, 0)
            self.fused(Half, 0, how, 0, Half.one, 3, 3, 2)

    def test_just_below_the_least_normal_one(self):
        for n in FORMATS:
            flush = FLUSH if n is not Half else 0
            # 2^emin (1 - 2^-p) is of p digits, so tiny, and half way to 2^emin, the even one.
            for how, bits in ((NEAR, n.least_normal), (UP, n.least_normal), (DOWN, n.greatest_small),
                              (CUT, n.greatest_small)):
                self.fused(n, 0, how, n.least_normal, n.one - 1, 0, bits, 48)
                self.fused(n, 0, how + flush, n.least_normal, n.one - 1, 0, 0 if flush else bits, 48)
            # 2^emin less far less: rounded to p digits it's 2^emin, which is not tiny.
            for how, bits, flags in ((NEAR, n.least_normal, 32), (UP, n.least_normal, 32),
                                     (DOWN, n.greatest_small, 48), (CUT, n.greatest_small, 48)):
                self.fused(n, 2, how, n.least_normal, n.least_normal, n.least_normal, bits, flags)
                flushed = 0 if flush and flags == 48 else bits
                self.fused(n, 2, how + flush, n.least_normal, n.least_normal, n.least_normal, flushed, flags)


class Zeros(Hand):
    def test_product_and_c_both_zero(self):
        for n in FORMATS:
            m = n.minus
            for how in ROUNDINGS:
                unlike = m if how == DOWN else 0
                for a, b in ((0, n.one), (n.three, 0), (0, 0), (m, m), (m, n.one | m)):
                    # These products are plus zero.
                    self.fused(n, 0, how, a, b, 0, 0, 0)
                    self.fused(n, 0, how, a, b, m, unlike, 0)
                    self.fused(n, 1, how, a, b, 0, unlike, 0)
                    self.fused(n, 1, how, a, b, m, 0, 0)
                    self.fused(n, 2, how, a, b, 0, unlike, 0)
                    self.fused(n, 2, how, a, b, m, m, 0)
                    self.fused(n, 3, how, a, b, 0, m, 0)
                    self.fused(n, 3, how, a, b, m, unlike, 0)

    def test_that_cancel(self):
        for n in FORMATS:
            for how in range(16):
                sign = n.minus if how & 3 == DOWN else 0
                for a in (n.one, n.greatest, n.least_normal):
                    self.fused(n, 0, how, a, n.one, a | n.minus, sign, 0)
                    self.fused(n, 0, how, a | n.minus, n.one, a, sign, 0)
                    self.fused(n, 1, how, a, n.one, a, sign, 0)
                    self.fused(n, 2, how, a, n.one, a, sign, 0)
                    self.fused(n, 3, how, a | n.minus, n.one, a, sign, 0)

    def test_a_product_of_zero_and_c_not(self):
        for n in FORMATS:
            for how in ROUNDINGS:
                for s in (0, n.minus):
                    for c in (n.three, n.greatest, n.least_normal):
                        for sort, turn in ((0, 0), (1, n.minus), (2, 0), (3, n.minus)):
                            self.fused(n, sort, how, s, n.three, c, c ^ turn, 0)
                            self.fused(n, sort, how, n.greatest, s, c | n.minus, c ^ n.minus ^ turn, 0)
                    self.fused(n, 1, how, s, n.three, n.least, n.least | n.minus, 2)

    def test_small_ones_that_count_as_zeros(self):
        for n in (Single, Double):
            for how in range(4, 8):
                unlike = n.minus if how & 3 == DOWN else 0
                self.fused(n, 0, how, n.least, n.one, n.three, n.three, 0)
                self.fused(n, 0, how, n.one, n.one, n.greatest_small, n.one, 0)
                self.fused(n, 0, how, n.least | n.minus, n.one, n.least | n.minus, n.minus, 0)
                self.fused(n, 0, how, n.least, n.one, n.least | n.minus, unlike, 0)
                self.fused(n, 0, how, n.least, n.infinite, n.one, n.empty, 1)
                self.fused(n, 3, how, n.infinite, n.least, n.infinite, n.empty, 1)

    def test_they_do_not_of_half(self):
        n = Half
        for how in range(16):
            self.fused(n, 0, how, 1, n.one, 1, 2, 2)
            self.fused(n, 0, how, 1, n.infinite, n.one, n.infinite, 2)


class Infinite(Hand):
    def test_zero_by_infinite(self):
        for n in FORMATS:
            for how in range(16):
                for sort in SORTS:
                    for s in (0, n.minus):
                        for c in (0, n.one, n.infinite, n.infinite | n.minus, n.least):
                            self.fused(n, sort, how, s, n.infinite, c, n.empty, 1)
                            self.fused(n, sort, how, n.infinite | s, 0, c, n.empty, 1)

    def test_of_opposite_signs(self):
        for n in FORMATS:
            plus, minus = n.infinite, n.infinite | n.minus
            for how in ROUNDINGS:
                for x in (n.one, n.infinite, n.least_normal):
                    for sort, c in ((0, minus), (1, plus), (2, plus), (3, minus)):
                        self.fused(n, sort, how, plus, x, c, n.empty, 1)
                        self.fused(n, sort, how, x, plus, c, n.empty, 1)
                    for sort, c, bits in ((0, plus, plus), (1, minus, plus), (2, minus, minus), (3, plus, minus)):
                        self.fused(n, sort, how, plus, x, c, bits, 0)
                        self.fused(n, sort, how, x | n.minus, minus, c, bits, 0)

    def test_one_alone(self):
        for n in FORMATS:
            plus, minus = n.infinite, n.infinite | n.minus
            for how in range(16):
                for c in (0, n.minus, n.one, n.greatest | n.minus):
                    for sort, bits in ((0, plus), (1, plus), (2, minus), (3, minus)):
                        self.fused(n, sort, how, plus, n.three, c, bits, 0)
                        self.fused(n, sort, how, n.three | n.minus, minus, c, bits, 0)
                for a, b in ((n.one, n.one), (0, n.one), (n.greatest, n.greatest | n.minus), (n.minus, 0)):
                    for sort, bits in ((0, plus), (1, minus), (2, plus), (3, minus)):
                        self.fused(n, sort, how, a, b, plus, bits, 0)

    def test_with_small_ones(self):
        for n in FORMATS:
            self.fused(n, 0, NEAR, n.infinite, n.least, n.one, n.infinite, 2)
            self.fused(n, 0, NEAR, n.infinite, n.one, n.least, n.infinite, 2)
            self.fused(n, 1, NEAR, n.one, n.least, n.infinite, n.infinite | n.minus, 2)
            # With flag 1 there is no other.
            self.fused(n, 0, NEAR, 0, n.infinite, n.least, n.empty, 1)


class NoNumbers(Hand):
    def test_which_comes(self):
        for n in FORMATS:
            first, second, third = n.quiet | n.minus, n.quiet + 1, n.quiet + 2
            for sort in SORTS:
                for how in range(16):
                    self.fused(n, sort, how, first, second, third, first, 0)
                    self.fused(n, sort, how, n.one, second, third, second, 0)
                    self.fused(n, sort, how, first, n.one, third, first, 0)
                    self.fused(n, sort, how, n.one, n.infinite, third, third, 0)
                    self.fused(n, sort, how, n.least, first, n.least, first, 0)

    def test_loud_ones_in_each_place(self):
        for n in FORMATS:
            loud, quieted, quiet = n.loud | n.minus, n.quieted | n.minus, n.quiet + 1
            for sort in SORTS:
                for how in range(16):
                    self.fused(n, sort, how, loud, n.one, n.one, quieted, 1)
                    self.fused(n, sort, how, n.one, loud, n.one, quieted, 1)
                    self.fused(n, sort, how, n.one, n.one, loud, quieted, 1)
                    # The first no number comes, loud or not; the flag tells of any.
                    self.fused(n, sort, how, quiet, loud, n.one, quiet, 1)
                    self.fused(n, sort, how, quiet, n.one, loud, quiet, 1)
                    self.fused(n, sort, how, n.one, quiet, loud, quiet, 1)
                    self.fused(n, sort, how, loud, quiet, quiet, quieted, 1)
                    self.fused(n, sort, how, n.least, loud, n.least, quieted, 1)

    def test_ahead_of_what_is_invalid(self):
        for n in FORMATS:
            for sort in SORTS:
                self.fused(n, sort, NEAR, 0, n.infinite, n.quiet, n.quiet, 0)
                self.fused(n, sort, NEAR, n.infinite, 0, n.loud, n.quieted, 1)


class BesideTheModel(unittest.TestCase):
    def fused(self, *handed):
        self.assertEqual(fused(*handed), model_compared.fused(*handed), handed)

    def test_edges_in_each_place(self):
        for f in model.FORMATS:
            values = edges(f)
            # Both signs of some of each kind: zero, small, normal, infinite, quiet, loud.
            few = [values[k] for k in (0, 1, 2, 10, 11, 13, 20, 22, 23, 24, 45, 46, 47, 49, 52, 53)]
            sampler = Sampler(800 + f)
            for a in values:
                for b in few:
                    for c in values:
                        self.fused(f, sampler.below(4), sampler.below(16), a, b, c)

    def test_every_how(self):
        for f in model.FORMATS:
            top = model.infinite(f, 0)
            few = [0, 1, (1 << (model.DIGITS[f] - 1)) + 1, number(f, 1) - 1, top - 1, top]
            for a in few:
                for b in few:
                    for c in few:
                        for sort in SORTS:
                            for how in range(16):
                                self.fused(f, sort, how, a, b, c)

    def test_many_numbers(self):
        for f in model.FORMATS:
            sampler = Sampler(900 + f)
            for k in range(9000):
                a, b, c = (sampler.float_bits(f) for place in range(3))
                self.fused(f, sampler.below(4), sampler.below(16), a, b, c)

    def test_c_near_the_product(self):
        # A c of the product's size leaves the digits that the product alone would lose.
        for f in model.FORMATS:
            sampler = Sampler(1000 + f)
            for k in range(9000):
                a, b = sampler.float_bits(f), sampler.float_bits(f)
                c = model.two(f, model.TWO_OPS["mul"], sampler.below(4), 0, a, b)[1]
                c = max(0, c - 2 + sampler.below(5)) % (1 << model.WIDTH[f])
                self.fused(f, sampler.below(4), sampler.below(16), a, b, c)

    def test_c_about_the_last_digits_of_the_product(self):
        for f in model.FORMATS:
            sampler = Sampler(1100 + f)
            one = number(f, 1)
            for k in range(9000):
                a, b = (one + sampler.fraction_bits(f) for place in range(2))
                c = number(f, two_to(-model.DIGITS[f] - 1 + sampler.below(5))) - 2 + sampler.below(5)
                sign = sampler.below(2) << (model.WIDTH[f] - 1)
                self.fused(f, sampler.below(4), sampler.below(16), a, b, c | sign)

    def test_about_the_least_normal_one(self):
        for f in model.FORMATS:
            sampler = Sampler(1200 + f)
            least = 1 << (model.DIGITS[f] - 1)
            for k in range(9000):
                a, b = least - 6 + sampler.below(12), number(f, 1) - 6 + sampler.below(12)
                c = sampler.pick([0, 1, 2, 3, least - 3 + sampler.below(6)])
                sign = sampler.below(2) << (model.WIDTH[f] - 1)
                self.fused(f, sampler.below(4), sampler.below(16), a, b, c | sign)
                # A product far below the last digit of c.
                self.fused(f, sampler.below(4), sampler.below(16), sampler.pick([1, least]) | sign, least, c)


if __name__ == "__main__":
    unittest.main()
