"""The edges that the document names, each told by its words and written out by hand."""

import unittest

from hand import COUNT_AS_ZERO, CUT, DOWN, Double, FLUSH, FORMATS, Half, NEAR, ROUNDINGS, Single, UP
from roundedonce.floats import one, two

SQRT, ROUND, EXPONENT, PART, REDUCE = range(5)
ADD, SUB, MUL, DIV, LEAST, GREATEST, SCALE, RANGE = range(8)


class Hand(unittest.TestCase):
    def two(self, n, op, how, a, b, bits, flags, imm=0):
        self.assertEqual(two(n.f, op, how, imm, a, b), [0, bits, flags], (n, op, how, imm, hex(a), hex(b)))

    def one(self, n, op, how, a, bits, flags, imm=0):
        self.assertEqual(one(n.f, op, how, imm, a), [0, bits, flags], (n, op, how, imm, hex(a)))


class ComeIn(Hand):
    def test_one_no_number(self):
        for n in FORMATS:
            for op in (SQRT, ROUND, EXPONENT, PART, REDUCE):
                for how in range(16):
                    self.one(n, op, how, n.quiet, n.quiet, 0)
                    self.one(n, op, how, n.quiet | n.minus, n.quiet | n.minus, 0)
                    self.one(n, op, how, n.loud, n.quieted, 1)
                    self.one(n, op, how, n.loud | n.minus, n.quieted | n.minus, 1)

    def test_the_first_no_number_of_two(self):
        for n in FORMATS:
            quiet, loud = n.quiet + 1, n.loud + 2 | n.minus
            quieted = n.quieted + 2 | n.minus
            for op in (ADD, SUB, MUL, DIV, SCALE):
                for how in range(16):
                    self.two(n, op, how, quiet, n.one, quiet, 0)
                    self.two(n, op, how, n.one, quiet, quiet, 0)
                    self.two(n, op, how, quiet, n.quiet, quiet, 0)
                    self.two(n, op, how, quiet, loud, quiet, 1)
                    self.two(n, op, how, loud, quiet, quieted, 1)
                    self.two(n, op, how, n.infinite, loud, quieted, 1)
                    # Nothing else is told beside a no number.
                    self.two(n, op, how, n.least, quiet, quiet, 0)
                    self.two(n, op, how, loud, n.least, quieted, 1)
                    self.two(n, op, how, quiet, 0, quiet, 0)

    def test_small_ones_came_in(self):
        for n in FORMATS:
            self.two(n, ADD, NEAR, n.least, n.infinite, n.infinite, 2)
            self.two(n, MUL, NEAR, n.infinite, n.least | n.minus, n.infinite | n.minus, 2)
            self.two(n, DIV, NEAR, n.infinite, n.greatest_small, n.infinite, 2)
            self.two(n, DIV, NEAR, n.least, n.infinite, 0, 2)
            self.two(n, MUL, NEAR, n.least, 0, 0, 2)
            self.two(n, SCALE, NEAR, n.least, n.infinite, n.infinite, 2)
            self.two(n, SCALE, NEAR, 0, n.least, 0, 2)
            self.two(n, ADD, NEAR, n.least_normal, 0, n.least_normal, 0)

    def test_small_ones_that_count_as_zeros(self):
        for n in (Single, Double):
            for how in range(4, 8):
                down = n.minus if how & 3 == DOWN else 0
                self.two(n, ADD, how, n.least, n.one, n.one, 0)
                self.two(n, ADD, how, n.least | n.minus, n.least | n.minus, n.minus, 0)
                self.two(n, ADD, how, n.greatest_small, n.least | n.minus, down, 0)
                self.two(n, SUB, how, n.least, n.least | n.minus, 0, 0)
                self.two(n, MUL, how, n.least, n.infinite, n.empty, 1)
                self.two(n, DIV, how, n.one, n.least | n.minus, n.infinite | n.minus, 4)
                self.two(n, DIV, how, n.least, n.greatest_small, n.empty, 1)
                self.two(n, SCALE, how, n.one, n.least | n.minus, n.one, 0)
                self.two(n, SCALE, how, n.least, n.infinite, n.empty, 1)
                self.two(n, LEAST, how, n.least, n.one, 0, 0)
                self.two(n, GREATEST, how, n.greatest_small | n.minus, n.one | n.minus, n.minus, 0)
                self.two(n, LEAST, how, n.quiet, n.least | n.minus, n.minus, 1)
                self.two(n, RANGE, how, n.least, n.one, 0, 0, imm=4)
                self.two(n, RANGE, how, n.quiet, n.least | n.minus, n.minus, 0, imm=4)
                self.one(n, SQRT, how, n.least | n.minus, n.minus, 0)
                self.one(n, ROUND, how, n.least | n.minus, n.minus, 0, imm=1)
                self.one(n, REDUCE, how, n.least | n.minus, 0, 0)
                self.one(n, EXPONENT, how, n.least, n.infinite | n.minus, 0)
                self.one(n, PART, how, n.least | n.minus, n.one | n.minus, 0, imm=8)

    def test_they_never_count_as_zeros_of_half(self):
        n = Half
        for how in range(16):
            self.two(n, ADD, how, 1, 1, 2, 2)
            self.two(n, SUB, how, 3, 1, 2, 2)
            self.two(n, MUL, how, 2, Half.half, 1, 2)
            self.two(n, DIV, how, 4, n.two, 2, 2)
            self.two(n, MUL, how, 1, n.infinite, n.infinite, 2)
            self.two(n, DIV, how, 1, n.minus, n.infinite | n.minus, 4)
            self.two(n, LEAST, how, 1, n.one, 1, 2)
            self.two(n, SCALE, how, n.least_normal, 0xBC00, 0x0200, 0)
            self.one(n, EXPONENT, how, 1, 0xCE00, 2)
            self.one(n, REDUCE, how, 1, 1, 2, imm=8)
            self.one(n, SQRT, how, 0x0004, 0x1000, 2)


class Results(Hand):
    def test_ties_of_near(self):
        for n in FORMATS:
            self.two(n, ADD, NEAR, n.one, n.half_digit, n.one, 32)
            self.two(n, ADD, NEAR, n.one + 1, n.half_digit, n.one + 2, 32)
            self.two(n, ADD, NEAR, n.one, n.half_digit + 1, n.one + 1, 32)
            self.two(n, ADD, NEAR, n.one + 1, n.half_digit - 1, n.one + 1, 32)
            self.two(n, SUB, NEAR, n.one | n.minus, n.half_digit, n.one | n.minus, 32)
            self.two(n, SUB, NEAR, (n.one + 1) | n.minus, n.half_digit, (n.one + 2) | n.minus, 32)
            self.two(n, ADD, NEAR, n.two - 1, n.half_digit, n.two, 32)

    def test_directed(self):
        for n in FORMATS:
            for sign, outward in ((0, UP), (n.minus, DOWN)):
                for how in (DOWN, UP, CUT):
                    bits = n.one + 1 if how == outward else n.one
                    self.two(n, ADD, how, n.one | sign, n.least_normal | sign, bits | sign, 32)
                    self.two(n, ADD, how, n.one | sign, n.half_digit | sign, bits | sign, 32)
                    self.two(n, ADD, how, n.one | sign, (n.last_digit - 1) | sign, bits | sign, 32)
                    self.two(n, ADD, how, n.one | sign, n.last_digit | sign, n.one + 1 | sign, 0)

    def test_overflow(self):
        for n in FORMATS:
            for sign, outward in ((0, UP), (n.minus, DOWN)):
                for how in ROUNDINGS:
                    bits = n.infinite if how in (NEAR, outward) else n.greatest
                    self.two(n, ADD, how, n.greatest | sign, n.greatest | sign, bits | sign, 40)
                    self.two(n, MUL, how, n.greatest | sign, n.greatest, bits | sign, 40)
                    self.two(n, DIV, how, n.greatest | sign, n.half, bits | sign, 40)
                    self.two(n, SCALE, how, n.one | sign, n.greatest, bits | sign, 40)
                    self.two(n, MUL, how, n.greatest | sign, n.one, n.greatest | sign, 0)

    def test_just_short_of_overflow(self):
        for n in FORMATS:
            # 1 added to the greatest one is lost, by near and inward; outward it overflows.
            self.two(n, ADD, NEAR, n.greatest, n.one, n.greatest, 32)
            self.two(n, ADD, DOWN, n.greatest, n.one, n.greatest, 32)
            self.two(n, ADD, CUT, n.greatest, n.one, n.greatest, 32)
            self.two(n, ADD, UP, n.greatest, n.one, n.infinite, 40)

    def test_underflow(self):
        for n in FORMATS:
            for sign, outward in ((0, UP), (n.minus, DOWN)):
                for how in ROUNDINGS:
                    bits = 1 if how == outward else 0
                    self.two(n, MUL, how, n.least_normal | sign, n.least_normal, bits | sign, 48)
                    self.two(n, MUL, how, n.least | sign, n.least, bits | sign, 50)
                    self.two(n, SCALE, how, n.one | sign, n.greatest | n.minus, bits | sign, 48)
                    # Half of the least small one is as near to 0, which is even.
                    self.two(n, MUL, how, n.least | sign, n.half, bits | sign, 50)

    def test_small_results_that_are_exact(self):
        for n in FORMATS:
            for how in ROUNDINGS:
                self.two(n, SUB, how, n.least_normal + 1, n.least_normal, 1, 0)
                self.two(n, DIV, how, n.least_normal, n.two, n.least_normal >> 1, 0)
                self.two(n, ADD, how, n.greatest_small, n.least, n.least_normal, 2)

    def test_small_results_are_zeros(self):
        for n in (Single, Double):
            for how in range(8, 12):
                self.two(n, SUB, how, n.least_normal + 1, n.least_normal, 0, 48)
                self.two(n, SUB, how, n.least_normal, n.least_normal + 1, n.minus, 48)
                self.two(n, DIV, how, n.least_normal | n.minus, n.two, n.minus, 48)
                self.two(n, MUL, how, n.least_normal | n.minus, n.least_normal, n.minus, 48)
                self.two(n, ADD, how, n.least, 0, 0, 50)
                self.two(n, ADD, how, n.greatest_small, n.least, n.least_normal, 2)
                self.two(n, SCALE, how, n.greatest_small | n.minus, 0, n.minus, 50)
                self.two(n, SUB, how, n.one, n.one, n.minus if how == 8 + DOWN else 0, 0)

    def test_small_results_of_half_are_never_zeros(self):
        for how in range(8, 16):
            self.two(Half, SUB, how, 0x0401, 0x0400, 1, 0)
            self.two(Half, DIV, how, 0x0400, Half.two, 0x0200, 0)
        self.two(Half, MUL, 8 + NEAR, 0x0400, 0x0400, 0, 48)
        self.two(Half, MUL, 8 + UP, 0x0400, 0x0400, 1, 48)

    def test_just_below_the_least_normal_one(self):
        for n in FORMATS:
            # 2^emin (1 - 2^-p) is a number with exponents without end, so tiny,
            # but half way between the greatest small one and 2^emin: the multiple that's even.
            below_one = n.one - 1
            self.two(n, MUL, NEAR, n.least_normal, below_one, n.least_normal, 48)
            self.two(n, MUL, UP, n.least_normal, below_one, n.least_normal, 48)
            self.two(n, MUL, DOWN, n.least_normal, below_one, n.greatest_small, 48)
            self.two(n, MUL, CUT, n.least_normal, below_one, n.greatest_small, 48)
            for how in ROUNDINGS:
                if n is not Half:
                    self.two(n, MUL, how + FLUSH, n.least_normal | n.minus, below_one, n.minus, 48)

    def test_rounded_up_to_the_least_normal_one(self):
        for n in FORMATS:
            # (2^emin + 1 last digit) times (1 - 2^-p): 2^emin (1 + 2^-p - ..), not tiny.
            self.two(n, MUL, NEAR, n.least_normal + 1, n.one - 1, n.least_normal, 32)
            self.two(n, MUL, FLUSH + NEAR, n.least_normal + 1, n.one - 1, n.least_normal, 32)
            # (1 - 2^(1 - p)) (1 + 2^(1 - p)) is 1 - 2^(2 - 2p): above all p digit numbers below 1.
            for how, bits, flags in ((NEAR, n.least_normal, 32), (UP, n.least_normal, 32),
                                     (DOWN, n.greatest_small, 48), (CUT, n.greatest_small, 48)):
                self.two(n, MUL, how, n.greatest_small, n.one + 1, bits, flags | 2)
            if n is not Half:
                self.two(n, MUL, FLUSH + NEAR, n.greatest_small, n.one + 1, n.least_normal, 34)
                self.two(n, MUL, FLUSH + CUT, n.greatest_small, n.one + 1, 0, 50)


class Sums(Hand):
    def test_exact_zeros(self):
        for n in FORMATS:
            for how in ROUNDINGS:
                sign = n.minus if how == DOWN else 0
                for a in (0, n.one, n.greatest, n.least_normal):
                    self.two(n, ADD, how, a, a | n.minus, sign, 0)
                    self.two(n, ADD, how, a | n.minus, a, sign, 0)
                    self.two(n, SUB, how, a, a, sign, 0)
                    self.two(n, SUB, how, a | n.minus, a | n.minus, sign, 0)
                self.two(n, ADD, how, 0, 0, 0, 0)
                self.two(n, ADD, how, n.minus, n.minus, n.minus, 0)
                self.two(n, SUB, how, 0, n.minus, 0, 0)
                self.two(n, SUB, how, n.minus, 0, n.minus, 0)
                self.two(n, ADD, how, n.least, n.least | n.minus, sign, 2)

    def test_infinite_ones(self):
        for n in FORMATS:
            plus, minus = n.infinite, n.infinite | n.minus
            for how in ROUNDINGS:
                self.two(n, ADD, how, plus, minus, n.empty, 1)
                self.two(n, ADD, how, minus, plus, n.empty, 1)
                self.two(n, SUB, how, plus, plus, n.empty, 1)
                self.two(n, SUB, how, minus, minus, n.empty, 1)
                self.two(n, ADD, how, plus, plus, plus, 0)
                self.two(n, SUB, how, minus, plus, minus, 0)
                self.two(n, ADD, how, n.greatest | n.minus, plus, plus, 0)
                self.two(n, SUB, how, n.greatest, plus, minus, 0)
                self.two(n, SUB, how, n.one, minus, plus, 0)
                self.two(n, SUB, how, minus, n.one, minus, 0)

    def test_a_no_number_keeps_its_sign(self):
        for n in FORMATS:
            self.two(n, SUB, NEAR, n.one, n.quiet, n.quiet, 0)
            self.two(n, SUB, NEAR, n.one, n.quiet | n.minus, n.quiet | n.minus, 0)
            self.two(n, SUB, NEAR, n.one, n.loud, n.quieted, 1)

    def test_ordinary(self):
        for n in FORMATS:
            for how in ROUNDINGS:
                self.two(n, ADD, how, n.one, n.two, n.three, 0)
                self.two(n, SUB, how, n.one, n.three, n.two | n.minus, 0)
                self.two(n, SUB, how, n.one, n.half, n.half, 0)


class Products(Hand):
    def test_signs(self):
        for n in FORMATS:
            for how in (*ROUNDINGS, FLUSH + NEAR, FLUSH + UP):
                for s in (0, n.minus):
                    for t in (0, n.minus):
                        self.two(n, MUL, how, n.two | s, n.half | t, n.one | (s ^ t), 0)
                        self.two(n, MUL, how, s, n.two | t, s ^ t, 0)
                        self.two(n, MUL, how, n.infinite | s, n.two | t, n.infinite | (s ^ t), 0)
                        self.two(n, MUL, how, s, n.infinite | t, n.empty, 1)
                        self.two(n, MUL, how, n.infinite | s, t, n.empty, 1)
                        self.two(n, DIV, how, n.one | s, n.two | t, n.half | (s ^ t), 0)
                        self.two(n, DIV, how, n.one | s, t, n.infinite | (s ^ t), 4)
                        self.two(n, DIV, how, n.least | s, t, n.infinite | (s ^ t), 4)
                        self.two(n, DIV, how, s, t, n.empty, 1)
                        self.two(n, DIV, how, s, n.one | t, s ^ t, 0)
                        self.two(n, DIV, how, s, n.infinite | t, s ^ t, 0)
                        self.two(n, DIV, how, n.infinite | s, n.infinite | t, n.empty, 1)
                        self.two(n, DIV, how, n.infinite | s, t, n.infinite | (s ^ t), 0)
                        self.two(n, DIV, how, n.one | s, n.infinite | t, s ^ t, 0)

    def test_a_third(self):
        thirds = ((Half, 0x3555, 0x3556), (Single, 0x3EAAAAAA, 0x3EAAAAAB),
                  (Double, 0x3FD5555555555555, 0x3FD5555555555556))
        for n, lower, upper in thirds:
            nearest = upper if n is Single else lower
            for how, bits in ((NEAR, nearest), (DOWN, lower), (UP, upper), (CUT, lower)):
                self.two(n, DIV, how, n.one, n.three, bits, 32)
            for how, bits in ((NEAR, nearest), (DOWN, upper), (UP, lower), (CUT, lower)):
                self.two(n, DIV, how, n.one, n.three | n.minus, bits | n.minus, 32)


class Roots(Hand):
    def test_edges(self):
        for n in FORMATS:
            for how in ROUNDINGS:
                self.one(n, SQRT, how, 0, 0, 0)
                self.one(n, SQRT, how, n.minus, n.minus, 0)
                self.one(n, SQRT, how, n.infinite, n.infinite, 0)
                self.one(n, SQRT, how, n.one, n.one, 0)
                for a in (n.infinite, n.one, n.greatest, n.least, n.least_normal):
                    self.one(n, SQRT, how, a | n.minus, n.empty, 1)

    def test_of_two(self):
        roots = ((Half, 0x3DA8, 0x3DA9, 0x3DA8), (Single, 0x3FB504F3, 0x3FB504F4, 0x3FB504F3),
                 (Double, 0x3FF6A09E667F3BCC, 0x3FF6A09E667F3BCD, 0x3FF6A09E667F3BCD))
        for n, lower, upper, nearest in roots:
            for how, bits in ((NEAR, nearest), (DOWN, lower), (UP, upper), (CUT, lower)):
                self.one(n, SQRT, how, n.two, bits, 32)

    def test_of_small_ones(self):
        self.one(Half, SQRT, NEAR, 0x0001, 0x0C00, 2)
        self.one(Single, SQRT, NEAR, 0x00000002, 0x1A800000, 2)
        self.one(Double, SQRT, NEAR, 0x1, 0x1E60000000000000, 2)

    def test_below_one(self):
        for n in FORMATS:
            # The root of 1 - 2^-p is above 1 - 2^-p: rounded up it's 1.
            self.one(n, SQRT, NEAR, n.one - 1, n.one - 1, 32)
            self.one(n, SQRT, UP, n.one - 1, n.one, 32)


class Choices(Hand):
    def test_ordinary(self):
        for n in FORMATS:
            for how in range(16):
                for a, b in ((n.one, n.two), (n.two | n.minus, n.one | n.minus), (n.one | n.minus, n.one),
                             (n.infinite | n.minus, n.greatest | n.minus), (n.greatest, n.infinite)):
                    self.two(n, LEAST, how, a, b, a, 0)
                    self.two(n, LEAST, how, b, a, a, 0)
                    self.two(n, GREATEST, how, a, b, b, 0)
                    self.two(n, GREATEST, how, b, a, b, 0)

    def test_zeros(self):
        for n in FORMATS:
            for op in (LEAST, GREATEST):
                self.two(n, op, NEAR, 0, n.minus, n.minus, 0)
                self.two(n, op, NEAR, n.minus, 0, 0, 0)

    def test_small_ones_stay_as_they_are(self):
        for n in FORMATS:
            for how in (0, FLUSH):
                self.two(n, LEAST, how, n.least, n.one, n.least, 2)
                self.two(n, LEAST, how, n.least, n.infinite | n.minus, n.infinite | n.minus, 2)
                self.two(n, GREATEST, how, n.one | n.minus, n.least | n.minus, n.least | n.minus, 2)
                self.two(n, GREATEST, how, 0, n.least, n.least, 2)

    def test_no_numbers(self):
        for n in FORMATS:
            for op in (LEAST, GREATEST):
                for b in (n.one, n.quiet | n.minus, n.loud, 0, n.minus, n.infinite, n.least):
                    self.two(n, op, NEAR, n.quiet, b, b, 1)
                    self.two(n, op, NEAR, n.loud, b, b, 1)
                for a in (n.one, n.least, n.infinite):
                    self.two(n, op, NEAR, a, n.quiet, n.quiet, 1)
                    self.two(n, op, NEAR, a, n.loud, n.loud, 1)


class Ranges(Hand):
    def ranged(self, n, imm, a, b, bits, flags, how=0):
        self.two(n, RANGE, how, a, b, bits, flags, imm=imm)

    def test_which_one(self):
        for n in (Single, Double):
            minus_two = n.two | n.minus
            # With its own sign (bits 2 and 3: 1).
            for a, b in ((n.one, minus_two), (minus_two, n.one)):
                for imm, bits in ((4, minus_two), (5, n.one), (6, n.one), (7, minus_two)):
                    self.ranged(n, imm, a, b, bits, 0)

    def test_alike_in_size(self):
        for n in (Single, Double):
            for size in (0, n.one, n.infinite):
                for a, b in ((size, size | n.minus), (size | n.minus, size)):
                    for imm, bits in ((4, size | n.minus), (5, size), (6, size | n.minus), (7, size)):
                        self.ranged(n, imm, a, b, bits, 0)

    def test_the_sign(self):
        for n in (Single, Double):
            for s in (0, n.minus):
                for t in (0, n.minus):
                    # The lesser in size is b.
                    for choice, sign in ((0, s), (1, t), (2, 0), (3, n.minus)):
                        self.ranged(n, 4 * choice + 2, n.two | s, n.one | t, n.one | sign, 0)

    def test_one_quiet(self):
        for n in (Single, Double):
            for way in range(4):
                for choice, sign in ((0, n.minus), (1, 0), (2, 0), (3, n.minus)):
                    self.ranged(n, 4 * choice + way, n.quiet | n.minus, n.one, n.one | sign, 0)
                    self.ranged(n, 4 * choice + way, n.quiet | n.minus, n.least, n.least | sign, 0)
                for choice, sign in ((0, n.minus), (1, n.minus), (2, 0), (3, n.minus)):
                    self.ranged(n, 4 * choice + way, n.one | n.minus, n.quiet, n.one | sign, 0)

    def test_both_quiet(self):
        for n in (Single, Double):
            for imm in range(16):
                self.ranged(n, imm, n.quiet | n.minus, n.quiet + 1, n.quiet | n.minus, 0)
                self.ranged(n, imm, n.quiet, n.quiet + 1 | n.minus, n.quiet, 0)

    def test_loud(self):
        for n in (Single, Double):
            for imm in range(16):
                self.ranged(n, imm, n.loud | n.minus, n.one, n.quieted | n.minus, 1)
                self.ranged(n, imm, n.one, n.loud | n.minus, n.quieted | n.minus, 1)
                self.ranged(n, imm, n.quiet + 8, n.loud, n.quieted, 1)
                self.ranged(n, imm, n.loud, n.loud + 2, n.quieted, 1)
                self.ranged(n, imm, n.loud, n.least, n.quieted, 1)

    def test_small(self):
        for n in (Single, Double):
            for how in (0, FLUSH):
                self.ranged(n, 4, n.least, n.one, n.least, 2, how)
                self.ranged(n, 5, n.least, n.one, n.one, 2, how)
                self.ranged(n, 12, n.one, n.least, n.least | n.minus, 2, how)


class Scales(Hand):
    def test_whole_numbers_not_above(self):
        for n in FORMATS:
            for how in ROUNDINGS:
                self.two(n, SCALE, how, n.three, n.one, n.three + (n.two - n.one), 0)
                self.two(n, SCALE, how, n.one, n.one_and_half, n.two, 0)
                self.two(n, SCALE, how, n.two, n.half | n.minus, n.one, 0)
                self.two(n, SCALE, how, n.one, n.half, n.one, 0)
                self.two(n, SCALE, how, n.one, n.minus, n.one, 0)
                # Just below 0 the greatest whole number not above is -1.
                self.two(n, SCALE, how, n.one, n.least | n.minus, n.half, 2)
                self.two(n, SCALE, how, n.one, n.least, n.one, 2)

    def test_zeros_and_infinite_ones(self):
        for n in FORMATS:
            plus, minus = n.infinite, n.infinite | n.minus
            for s in (0, n.minus):
                self.two(n, SCALE, NEAR, s, plus, n.empty, 1)
                self.two(n, SCALE, NEAR, plus | s, minus, n.empty, 1)
                self.two(n, SCALE, NEAR, n.one | s, plus, plus | s, 0)
                self.two(n, SCALE, NEAR, n.one | s, minus, s, 0)
                self.two(n, SCALE, NEAR, plus | s, plus, plus | s, 0)
                self.two(n, SCALE, NEAR, s, minus, s, 0)
                self.two(n, SCALE, NEAR, s, n.greatest, s, 0)
                self.two(n, SCALE, NEAR, plus | s, n.greatest | n.minus, plus | s, 0)

    def test_small_ones_scaled(self):
        # 2^-149 and 2^-1074 by 2^149 and 2^1074; by 2^-1 they lie half way to 0.
        self.two(Single, SCALE, NEAR, 1, 0x43150000, Single.one, 2)
        self.two(Double, SCALE, NEAR, 1, 0x4090C80000000000, Double.one, 2)
        self.two(Half, SCALE, NEAR, 1, 0x4E00, Half.one, 2)
        for n in FORMATS:
            self.two(n, SCALE, NEAR, 1, n.one | n.minus, 0, 50)
            self.two(n, SCALE, NEAR, 3, n.one | n.minus, 2, 50)
            self.two(n, SCALE, NEAR, 2, n.one | n.minus, 1, 2)


class Grids(Hand):
    def test_round_by_each_rounding(self):
        for n in FORMATS:
            for s in (0, n.minus):
                outward = DOWN if s else UP
                for rounding in ROUNDINGS:
                    far = n.two if rounding in (NEAR, outward) else n.one
                    near = n.one if rounding == outward else 0
                    for imm, how in ((rounding, 3 - rounding), (4 + 3 - rounding, rounding)):
                        self.one(n, ROUND, how, n.one_and_half | s, far | s, 32, imm)
                        self.one(n, ROUND, how, n.half | s, near | s, 32, imm)
                        self.one(n, ROUND, how, n.half | s, near | s, 0, imm | 8)
                        self.one(n, ROUND, how, n.three | s, n.three | s, 0, imm)

    def test_round_leaves_these(self):
        for n in FORMATS:
            for imm in (0, 1, 2, 3, 4, 15, 240, 255):
                for s in (0, n.minus):
                    for how in range(16):
                        self.one(n, ROUND, how, s, s, 0, imm)
                        self.one(n, ROUND, how, n.infinite | s, n.infinite | s, 0, imm)
                        self.one(n, ROUND, how, n.greatest | s, n.greatest | s, 0, imm)

    def test_round_of_small_ones(self):
        for n in (Single, Double):
            self.one(n, ROUND, NEAR, n.least, 0, 34)
            self.one(n, ROUND, NEAR, n.least, n.one, 34, imm=2)
            self.one(n, ROUND, NEAR, n.least | n.minus, n.minus, 2, imm=8)
            self.one(n, ROUND, FLUSH, n.greatest_small | n.minus, n.one | n.minus, 34, imm=1)

    def test_round_to_the_small_one_of_half(self):
        # 2^-15 is small in half: a grid of it loses nothing but what's off it.
        for how in (0, FLUSH, COUNT_AS_ZERO):
            self.one(Half, ROUND, how, 0x0200, 0x0200, 2, imm=0xF0)
            self.one(Half, ROUND, how, 0x0201, 0x0200, 34, imm=0xF0)
            self.one(Half, ROUND, how, 0x0001, 0x0200, 34, imm=0xF2)
            self.one(Half, ROUND, how, 0x0100, 0x0000, 34, imm=0xF0)
            self.one(Half, REDUCE, how, 0x0201, 0x0001, 34, imm=0xF0)
            self.one(Half, REDUCE, how, 0x0200, 0x0000, 2, imm=0xF0)

    def test_reduce_ordinary(self):
        for n in FORMATS:
            self.one(n, REDUCE, NEAR, n.one_and_half, n.half | n.minus, 32)
            self.one(n, REDUCE, NEAR, n.one_and_half, n.half, 32, imm=1)
            self.one(n, REDUCE, NEAR, n.one_and_half, n.half | n.minus, 32, imm=2)
            self.one(n, REDUCE, NEAR, n.one_and_half | n.minus, n.half, 32, imm=1)
            self.one(n, REDUCE, NEAR, n.one_and_half | n.minus, n.half | n.minus, 0, imm=11)
            self.one(n, REDUCE, UP, n.one_and_half, n.half | n.minus, 32, imm=5)
            self.one(n, REDUCE, NEAR, n.one_and_half, 0, 0, imm=16)

    def test_reduce_to_exact_zeros(self):
        for n in FORMATS:
            for a in (0, n.minus, n.one, n.three | n.minus, n.greatest):
                for how in ROUNDINGS:
                    for imm in (0, 1, 2, 3, 9):
                        self.one(n, REDUCE, how, a, n.minus if imm & 3 == DOWN else 0, 0, imm)
                    for imm in (4, 5, 6, 7):
                        self.one(n, REDUCE, how, a, n.minus if how == DOWN else 0, 0, imm)

    def test_reduce_of_infinite_ones(self):
        for n in FORMATS:
            for imm in range(16):
                for how in ROUNDINGS:
                    self.one(n, REDUCE, how, n.infinite, 0, 0, imm)
                    self.one(n, REDUCE, how, n.infinite | n.minus, 0, 0, imm)

    def test_reduce_that_has_to_be_rounded(self):
        for n in FORMATS:
            # 2^emin less 1, which imm rounds up to, by how's rounding; bit 3 hides only what was off the grid.
            for imm in (2, 10):
                for how, bits in ((NEAR, n.one), (DOWN, n.one), (UP, n.one - 1), (CUT, n.one - 1)):
                    self.one(n, REDUCE, how, n.least_normal, bits | n.minus, 32, imm)

    def test_reduce_made_zero(self):
        for n in (Single, Double):
            for imm in (0, 8):
                self.one(n, REDUCE, FLUSH, n.least | n.minus, n.minus, 50, imm)
            self.one(n, REDUCE, NEAR, n.least | n.minus, n.least | n.minus, 34)
            self.one(n, REDUCE, NEAR, n.least | n.minus, n.least | n.minus, 2, imm=8)


class Parts(Hand):
    def test_exponents(self):
        for n in FORMATS:
            for how in range(16):
                for s in (0, n.minus):
                    self.one(n, EXPONENT, how, s, n.infinite | n.minus, 0)
                    self.one(n, EXPONENT, how, n.infinite | s, n.infinite, 0)
                    self.one(n, EXPONENT, how, n.one | s, 0, 0)
                    self.one(n, EXPONENT, how, n.two - 1 | s, 0, 0)
                    self.one(n, EXPONENT, how, n.one - 1 | s, n.negative_one_exponent, 0)
                    self.one(n, EXPONENT, how, n.ten | s, n.three, 0)

    def test_exponents_of_small_ones(self):
        for n in FORMATS:
            self.one(n, EXPONENT, NEAR, n.least, n.least_exponent, 2)
            self.one(n, EXPONENT, FLUSH, n.least | n.minus, n.least_exponent, 2)

    def test_exponents_at_the_ends(self):
        for n, top, low in ((Half, 0x4B80, 0xCB00), (Single, 0x42FE0000, 0xC2FC0000),
                            (Double, 0x408FF80000000000, 0xC08FF00000000000)):
            self.one(n, EXPONENT, NEAR, n.greatest, top, 0)
            self.one(n, EXPONENT, NEAR, n.least_normal, low, 0)

    def test_ways(self):
        for n in FORMATS:
            quarter_and_half = n.half + (n.one_and_half - n.one)
            for how in range(16):
                # 3 is 3/2 2^1, 2 is 1 2^1, 1 1/2 is 3/2 2^0.
                for a, bits in ((n.three, (n.one_and_half, quarter_and_half, quarter_and_half, quarter_and_half)),
                                (n.two, (n.one, n.half, n.half, n.one)),
                                (n.half, (n.one, n.half, n.half, n.one)),
                                (n.one_and_half, (n.one_and_half, n.one_and_half, quarter_and_half, quarter_and_half)),
                                (n.one_and_half - 1, (n.one_and_half - 1, n.one_and_half - 1,
                                                      quarter_and_half - 1, n.one_and_half - 1))):
                    for way in range(4):
                        self.one(n, PART, how, a, bits[way], 0, way)

    def test_signs(self):
        for n in FORMATS:
            for way in range(4):
                for a in (0, n.infinite):
                    for choice in range(4):
                        self.one(n, PART, NEAR, a, n.one, 0, 4 * choice + way)
                self.one(n, PART, NEAR, n.minus, n.one | n.minus, 0, way)
                self.one(n, PART, NEAR, n.minus, n.one, 0, 4 + way)
                self.one(n, PART, NEAR, n.minus, n.one | n.minus, 0, 8 + way)
                self.one(n, PART, NEAR, n.minus, n.one | n.minus, 0, 12 + way)
                self.one(n, PART, NEAR, n.infinite | n.minus, n.one | n.minus, 0, way)
                self.one(n, PART, NEAR, n.infinite | n.minus, n.one, 0, 4 + way)
                for a in (n.infinite, n.one, n.least, n.greatest):
                    self.one(n, PART, NEAR, a | n.minus, n.empty, 1, 8 + way)
                    self.one(n, PART, NEAR, a | n.minus, n.empty, 1, 12 + way)

    def test_of_small_ones(self):
        for n in FORMATS:
            self.one(n, PART, NEAR, n.least | n.minus, n.one | n.minus, 2)
            self.one(n, PART, NEAR, 3, n.one_and_half, 2)
            self.one(n, PART, NEAR, 3 | n.minus, n.one_and_half, 2, imm=4)
        # The least small one's exponent is odd in single alone.
        self.one(Half, PART, NEAR, 1, Half.one, 2, imm=1)
        self.one(Single, PART, NEAR, 1, Single.half, 2, imm=1)
        self.one(Double, PART, NEAR, 1, Double.one, 2, imm=1)


if __name__ == "__main__":
    unittest.main()
