"""Every op beside the model: each pair of edges in every how, and many numbers between."""

import unittest

from model import FORMATS, HALF, ONE_OPS, TWO_OPS, Float, Sampler, edges, number
import model
from roundedonce.floats import one, two

PLAIN_TWO = [op for name, op in TWO_OPS.items() if name != "range"]
EVERY_HOW = range(16)


class Beside(unittest.TestCase):
    def one(self, *handed):
        self.assertEqual(one(*handed), model.one(*handed), handed)

    def two(self, *handed):
        self.assertEqual(two(*handed), model.two(*handed), handed)


class Edges(Beside):
    def pairs(self, f):
        values = edges(f)
        for op in PLAIN_TWO:
            for a in values:
                for b in values:
                    for how in EVERY_HOW:
                        self.two(f, op, how, 0, a, b)

    def test_pairs_of_half(self):
        self.pairs(0)

    def test_pairs_of_single(self):
        self.pairs(1)

    def test_pairs_of_double(self):
        self.pairs(2)

    def test_ranges(self):
        for f in (1, 2):
            for a in edges(f):
                for b in edges(f):
                    for imm in range(16):
                        for how in (0, 4, 8):
                            self.two(f, TWO_OPS["range"], how, imm, a, b)

    def test_roots_and_exponents(self):
        for f in FORMATS:
            for a in edges(f):
                for how in EVERY_HOW:
                    self.one(f, ONE_OPS["sqrt"], how, 0, a)
                    self.one(f, ONE_OPS["exponent"], how, 0, a)

    def test_parts(self):
        for f in FORMATS:
            for a in edges(f):
                for how in EVERY_HOW:
                    for imm in range(16):
                        self.one(f, ONE_OPS["part"], how, imm, a)

    def test_grids(self):
        for f in FORMATS:
            for a in edges(f):
                for imm in range(256):
                    for how in (0, 1, 2, 3, 4, 8, 13):
                        self.one(f, ONE_OPS["round"], how, imm, a)
                        self.one(f, ONE_OPS["reduce"], how, imm, a)


class EveryHalf(Beside):
    def test_roots(self):
        for a in range(1 << 16):
            for how in range(4):
                self.one(HALF, ONE_OPS["sqrt"], how, 0, a)

    def test_exponents(self):
        for a in range(1 << 16):
            self.one(HALF, ONE_OPS["exponent"], 0, 0, a)

    def test_parts_and_grids(self):
        sampler = Sampler(5)
        for a in range(1 << 16):
            how, imm = sampler.below(16), sampler.below(256)
            self.one(HALF, ONE_OPS["part"], how, imm % 16, a)
            self.one(HALF, ONE_OPS["round"], how, imm, a)
            self.one(HALF, ONE_OPS["reduce"], how, imm, a)


class ManyNumbers(Beside):
    def test_two(self):
        for f in FORMATS:
            sampler = Sampler(100 + f)
            for k in range(12000):
                a, b, how = sampler.float_bits(f), sampler.float_bits(f), sampler.below(16)
                for op in PLAIN_TWO:
                    self.two(f, op, how, 0, a, b)
                if f != HALF:
                    self.two(f, TWO_OPS["range"], how, sampler.below(16), a, b)

    def test_near_by(self):
        # Sums that cancel, quotients near 1, and alike ones to choose from.
        for f in FORMATS:
            sampler = Sampler(200 + f)
            for k in range(6000):
                a, how = sampler.float_bits(f), sampler.below(16)
                b = max(0, a - 4 + sampler.below(9)) % (1 << model.WIDTH[f])
                turn = sampler.below(2) << (model.WIDTH[f] - 1)
                for op in PLAIN_TWO:
                    self.two(f, op, how, 0, a, b ^ turn)
                if f != HALF:
                    self.two(f, TWO_OPS["range"], how, sampler.below(16), a, b ^ turn)

    def test_about_the_least_normal_one(self):
        # Products and quotients just below and above 2^emin, where tiny is decided.
        for f in FORMATS:
            sampler = Sampler(300 + f)
            least = 1 << (model.DIGITS[f] - 1)
            for k in range(6000):
                how = sampler.below(16)
                a = max(0, least - 6 + sampler.below(12))
                b = number(f, 1) - 6 + sampler.below(12)
                sign = sampler.below(2) << (model.WIDTH[f] - 1)
                self.two(f, TWO_OPS["mul"], how, 0, a | sign, b)
                self.two(f, TWO_OPS["div"], how, 0, a | sign, b)

    def test_about_the_greatest_one(self):
        for f in FORMATS:
            sampler = Sampler(400 + f)
            top = model.infinite(f, 0)
            for k in range(6000):
                how = sampler.below(16)
                a, b = top - sampler.below(8), number(f, 1) - 6 + sampler.below(12)
                sign = sampler.below(2) << (model.WIDTH[f] - 1)
                self.two(f, TWO_OPS["mul"], how, 0, a | sign, b)
                self.two(f, TWO_OPS["div"], how, 0, a | sign, b)
                # What's added is about half of the last digit of a.
                half_digit = number(f, model.two_to(model.EMAX[f] - model.DIGITS[f])) - 4 + sampler.below(8)
                self.two(f, TWO_OPS["add"], how, 0, a | sign, half_digit | sign)
                self.two(f, TWO_OPS["sub"], how, 0, a | sign, half_digit | sign)

    def test_scales(self):
        for f in FORMATS:
            sampler = Sampler(500 + f)
            farthest = 2 * (model.EMAX[f] + model.DIGITS[f])
            for k in range(9000):
                a, how = sampler.float_bits(f), sampler.below(16)
                steps = number(f, sampler.below(2 * farthest) - farthest)
                if Float(f, steps).kind == "normal" and sampler.below(2):
                    steps += sampler.below(3) - 1
                self.two(f, TWO_OPS["scale"], how, 0, a, steps)

    def test_one(self):
        for f in FORMATS:
            sampler = Sampler(600 + f)
            for k in range(15000):
                a, how, imm = sampler.float_bits(f), sampler.below(16), sampler.below(256)
                self.one(f, ONE_OPS["sqrt"], how, 0, a)
                self.one(f, ONE_OPS["exponent"], how, 0, a)
                self.one(f, ONE_OPS["part"], how, imm % 16, a)
                self.one(f, ONE_OPS["round"], how, imm, a)
                self.one(f, ONE_OPS["reduce"], how, imm, a)

    def test_squares_and_their_neighbours(self):
        for f in FORMATS:
            sampler = Sampler(700 + f)
            digits = model.DIGITS[f] // 2
            for k in range(6000):
                root = sampler.below(1 << digits) + 1
                shift = 2 * sampler.below(model.EMAX[f] // 2 - digits) - model.EMAX[f] // 2 // 2 * 2
                square = number(f, root * root * model.two_to(shift))
                self.one(f, ONE_OPS["sqrt"], sampler.below(16), 0, square - 1 + sampler.below(3))


if __name__ == "__main__":
    unittest.main()
