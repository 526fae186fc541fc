"""class_of: each bit of imm by itself and together, with each class."""

import unittest

from hand import Double, FORMATS, Half, Single
import model
from model import Sampler, edges
import model_compared
from roundedonce.floats import class_of


class Hand(unittest.TestCase):
    def is_of(self, n, how, a, bits):
        """The bits of imm that tell a's class are just these."""
        for imm in range(256):
            told = int(any(imm >> bit & 1 for bit in bits))
            self.assertEqual(class_of(n.f, imm, how, a), [0, told], (n, imm, how, hex(a)))


class Classes(Hand):
    def test_each_class(self):
        for n in FORMATS:
            m = n.minus
            for how in (0, 3, 4, 8, 15):
                for quiet in (n.quiet, n.quiet | m, n.empty, n.infinite | n.minus - 1):
                    self.is_of(n, how, quiet, [0])
                self.is_of(n, how, 0, [1])
                self.is_of(n, how, m, [2])
                self.is_of(n, how, n.infinite, [3])
                self.is_of(n, how, n.infinite | m, [4])
                for loud in (n.loud, n.loud | m, n.infinite + 1, n.empty - 1):
                    self.is_of(n, how, loud, [7])
                for a in (n.least_normal, n.one, n.three, n.greatest):
                    self.is_of(n, how, a, [])
                    self.is_of(n, how, a | m, [6])

    def test_small_ones(self):
        for n in FORMATS:
            for how in (0, 1, 2, 3, 8, 11):
                for a in (n.least, n.greatest_small):
                    self.is_of(n, how, a, [5])
                    self.is_of(n, how, a | n.minus, [5, 6])

    def test_small_ones_that_count_as_zeros(self):
        for n in (Single, Double):
            for how in (4, 5, 7, 12, 15):
                for a in (n.least, n.greatest_small):
                    self.is_of(n, how, a, [1])
                    self.is_of(n, how, a | n.minus, [2])

    def test_they_do_not_of_half(self):
        for how in range(16):
            self.is_of(Half, how, 0x0001, [5])
            self.is_of(Half, how, 0x83FF, [5, 6])


class Many(unittest.TestCase):
    def test_no_class_and_all_classes(self):
        for f in model.FORMATS:
            sampler = Sampler(90 + f)
            for a in edges(f) + [sampler.float_bits(f) for k in range(2000)]:
                for how in (0, 4):
                    self.assertEqual(class_of(f, 0, how, a), [0, 0])
                    operand = model.come_in(f, how, a)
                    unclassed = operand.kind == "normal" and operand.sign == 0
                    self.assertEqual(class_of(f, 255, how, a), [0, 0 if unclassed else 1])

    def test_beside_the_model(self):
        for f in model.FORMATS:
            sampler = Sampler(95 + f)
            for a in edges(f) + [sampler.float_bits(f) for k in range(1000)]:
                for k in range(20):
                    handed = (f, sampler.pick([sampler.below(256), 1 << sampler.below(8)]), sampler.below(16), a)
                    self.assertEqual(class_of(*handed), model_compared.class_of(*handed), handed)

    def test_every_half(self):
        sampler = Sampler(99)
        for a in range(1 << 16):
            imm = 1 << sampler.below(8)
            self.assertEqual(class_of(0, imm, 0, a), model_compared.class_of(0, imm, 0, a))


if __name__ == "__main__":
    unittest.main()
