"""S2: a b + c once rounded is mul's value where c is 0, and add's (or sub's) where b is 1."""

import unittest

from model import FORMATS, TWO_OPS, WIDTH, Float, Sampler, edges, number
from roundedonce.floats import fused, two

ADD, SUB, MUL = (TWO_OPS[name] for name in ("add", "sub", "mul"))


def pairs(f, seed, count):
    sampler = Sampler(seed)
    values = edges(f)
    found = [(a, b, sampler.below(16)) for a in values for b in values]
    return found + [(sampler.float_bits(f), sampler.float_bits(f), sampler.below(16)) for k in range(count)]


class OnceTogether(unittest.TestCase):
    def test_c_zero_of_the_products_sign(self):
        for f in FORMATS:
            minus = 1 << (WIDTH[f] - 1)
            for a, b, how in pairs(f, 40 + f, 6000):
                zero = (a ^ b) & minus
                product = two(f, MUL, how, 0, a, b)
                self.assertEqual(fused(f, 0, how, a, b, zero), product, (f, how, hex(a), hex(b)))
                self.assertEqual(fused(f, 1, how, a, b, zero ^ minus), product, (f, how, hex(a), hex(b)))

    def test_c_zero_of_the_other_sign(self):
        for f in FORMATS:
            minus = 1 << (WIDTH[f] - 1)
            for a, b, how in pairs(f, 50 + f, 6000):
                zero = (a ^ b ^ minus) & minus
                together, product = fused(f, 0, how, a, b, zero), two(f, MUL, how, 0, a, b)
                self.assertEqual(together[2], product[2])
                if together[1] != product[1]:
                    # Zeros alone may differ, and in their signs alone.
                    self.assertEqual({Float(f, together[1]).kind, Float(f, product[1]).kind}, {"zero"})

    def test_b_one(self):
        for f in FORMATS:
            minus, one = 1 << (WIDTH[f] - 1), number(f, 1)
            for a, c, how in pairs(f, 60 + f, 6000):
                added, less = two(f, ADD, how, 0, a, c), two(f, SUB, how, 0, a, c)
                where = (f, how, hex(a), hex(c))
                self.assertEqual(fused(f, 0, how, a, one, c), added, where)
                self.assertEqual(fused(f, 1, how, a, one, c), less, where)
                self.assertEqual(fused(f, 2, how, a, one | minus, c), added, where)
                self.assertEqual(fused(f, 3, how, a, one | minus, c), less, where)

    def test_a_and_b_change_places(self):
        for f in FORMATS:
            sampler = Sampler(70 + f)
            for a, b, how in pairs(f, 80 + f, 3000):
                if not (Float(f, a).no_number or Float(f, b).no_number):
                    c, sort = sampler.float_bits(f), sampler.below(4)
                    self.assertEqual(fused(f, sort, how, a, b, c), fused(f, sort, how, b, a, c))


if __name__ == "__main__":
    unittest.main()
