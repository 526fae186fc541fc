"""order: how two stand, and its flags, strict and not."""

import unittest

from hand import Double, FORMATS, Half, Single
import model
from model import Sampler, edges
import model_compared
from roundedonce.floats import compare, order

LESS, EQUAL, GREATER, NOT = range(4)
STRICT = (1, 2, 16, 255, 1 << 31, 4294967295)


class Hand(unittest.TestCase):
    def stands(self, n, how, a, b, standing, flags, strict_flags=None):
        self.assertEqual(order(n.f, 0, how, a, b), [0, standing, flags], (n, how, hex(a), hex(b)))
        for strict in STRICT:
            told = flags if strict_flags is None else strict_flags
            self.assertEqual(order(n.f, strict, how, a, b), [0, standing, told], (n, strict, how, hex(a), hex(b)))


class Numbers(Hand):
    def test_ordinary(self):
        for n in FORMATS:
            rising = [n.infinite | n.minus, n.greatest | n.minus, n.one | n.minus, n.least_normal | n.minus,
                      n.minus, n.least_normal, n.half, n.one, n.one + 1, n.three, n.greatest, n.infinite]
            for how in range(16):
                for j in range(len(rising)):
                    for k in range(len(rising)):
                        standing = LESS if j < k else GREATER if j > k else EQUAL
                        self.stands(n, how, rising[j], rising[k], standing, 0)

    def test_zeros(self):
        for n in FORMATS:
            for how in range(16):
                for a in (0, n.minus):
                    for b in (0, n.minus):
                        self.stands(n, how, a, b, EQUAL, 0)

    def test_small_ones(self):
        for n in FORMATS:
            for how in (0, 1, 2, 3, 8, 11):
                self.stands(n, how, n.least, 0, GREATER, 2)
                self.stands(n, how, n.minus, n.least, LESS, 2)
                self.stands(n, how, n.least, n.least | n.minus, GREATER, 2)
                self.stands(n, how, n.greatest_small | n.minus, n.least | n.minus, LESS, 2)
                self.stands(n, how, n.greatest_small, n.greatest_small, EQUAL, 2)
                self.stands(n, how, n.least_normal, n.greatest_small, GREATER, 2)
                self.stands(n, how, n.least, n.infinite, LESS, 2)

    def test_small_ones_that_count_as_zeros(self):
        for n in (Single, Double):
            for how in (4, 5, 6, 7, 12, 15):
                self.stands(n, how, n.least, 0, EQUAL, 0)
                self.stands(n, how, n.greatest_small | n.minus, n.least, EQUAL, 0)
                self.stands(n, how, n.minus, n.least | n.minus, EQUAL, 0)
                self.stands(n, how, n.greatest_small, n.least_normal, LESS, 0)
                self.stands(n, how, n.least, n.infinite | n.minus, GREATER, 0)

    def test_they_do_not_of_half(self):
        for how in range(16):
            self.stands(Half, how, 1, 0, GREATER, 2)
            self.stands(Half, how, 0x83FF, 0x8001, LESS, 2)


class NoNumbers(Hand):
    def test_quiet_ones(self):
        for n in FORMATS:
            for how in range(16):
                for quiet in (n.quiet, n.quiet | n.minus, n.empty):
                    for other in (n.one, 0, n.infinite, n.infinite | n.minus, n.least, n.quiet, quiet):
                        self.stands(n, how, quiet, other, NOT, 0, 1)
                        self.stands(n, how, other, quiet, NOT, 0, 1)

    def test_loud_ones(self):
        for n in FORMATS:
            for how in range(16):
                for loud in (n.loud, n.loud | n.minus):
                    for other in (n.one, 0, n.infinite, n.least, n.quiet, loud):
                        self.stands(n, how, loud, other, NOT, 1)
                        self.stands(n, how, other, loud, NOT, 1)


class Many(unittest.TestCase):
    def pairs(self, f, seed):
        sampler = Sampler(seed)
        found = [(a, b, sampler.below(16)) for a in edges(f) for b in edges(f)]
        for k in range(6000):
            a = sampler.float_bits(f)
            b = sampler.pick([sampler.float_bits(f), a, a ^ 1, a ^ 1 << (model.WIDTH[f] - 1)])
            found.append((a, b, sampler.below(16)))
        return found

    def test_beside_the_model(self):
        for f in model.FORMATS:
            for a, b, how in self.pairs(f, 40 + f):
                for strict in (0, 1, 4294967295):
                    handed = (f, strict, how, a, b)
                    self.assertEqual(order(*handed), model_compared.order(*handed), handed)

    def test_beside_compare(self):
        # Sorts 0, 1, 14 and 3 ask for one way to stand each; 1 is strict, 17 not.
        for f in model.FORMATS:
            for a, b, how in self.pairs(f, 50 + f):
                standing = order(f, 0, how, a, b)[1]
                asked = [compare(f, sort, how, a, b)[1] for sort in (1, 0, 14, 3)]
                self.assertEqual(asked, [int(standing == k) for k in range(4)])
                self.assertEqual(order(f, 1, how, a, b)[2], compare(f, 1, how, a, b)[2])
                self.assertEqual(order(f, 0, how, a, b)[2], compare(f, 17, how, a, b)[2])


if __name__ == "__main__":
    unittest.main()
