"""fix: each token with each answer, the flags that imm asks for, by hand and beside the model."""

import unittest

from hand import Double, Single
import model
from model import Sampler, edges
import model_changed
from roundedonce.floats import fix

BOTH = (Single, Double)
A = {Single: 0x12345678, Double: 0x123456789ABCDEF0}
NINETY = {Single: 0x42B40000, Double: 0x4056800000000000}
HALF_PI = {Single: 0x3FC90FDB, Double: 0x3FF921FB54442D18}


def tokens(n):
    """Some b of each token."""
    m = n.minus
    return {
        0: [n.quiet, n.quiet | m, n.empty],
        1: [n.loud, n.loud | m, n.infinite + 1],
        2: [0, m],
        3: [n.one],
        4: [n.infinite | m],
        5: [n.infinite],
        6: [n.one | m, n.three | m, n.greatest | m, n.least_normal | m, n.least | m, n.one + 1 | m],
        7: [n.one + 1, n.one - 1, n.two, n.greatest, n.least_normal, n.least, n.greatest_small],
    }


def answers(n, a, b):
    m = n.minus
    quiet_bit = n.empty ^ n.infinite ^ m
    no_number = b & ~m > n.infinite
    return [a, b, b | quiet_bit if no_number else n.empty, n.empty, n.infinite | m, n.infinite, n.infinite | b & m, m,
            0, n.one | m, n.one, n.half, NINETY[n], HALF_PI[n], n.greatest, n.greatest | m]


class Hand(unittest.TestCase):
    def fixed(self, n, imm, how, table, a, b, bits, flags):
        self.assertEqual(fix(n.f, imm, how, table, a, b), [0, bits, flags], (n, imm, how, hex(table), hex(a), hex(b)))


class Answers(Hand):
    def test_each_token_with_each_answer(self):
        for n in BOTH:
            for token, listed in tokens(n).items():
                for b in listed:
                    for said, bits in enumerate(answers(n, A[n], b)):
                        # The other places say something else.
                        other = (said + 5) % 16 * 0x11111111
                        table = other & ~(15 << 4 * token) | said << 4 * token
                        for how in (0, 1, 2, 3, 8, 11):
                            self.fixed(n, 0, how, table, A[n], b, bits, 0)

    def test_a_is_not_looked_into(self):
        for n in BOTH:
            for a in (n.loud, n.loud | n.minus, n.quiet, n.least, n.greatest_small | n.minus, 0, n.infinite, n.minus):
                for how in range(16):
                    for listed in tokens(n).values():
                        for b in listed:
                            self.fixed(n, 0, how, 0, a, b, a, 0)

    def test_b_as_it_is(self):
        for n in BOTH:
            for how in (0, 3, 8):
                for listed in tokens(n).values():
                    for b in listed:
                        # A loud one too, and a small one where small results are zeros.
                        self.fixed(n, 0, how, 0x11111111, 0, b, b, 0)

    def test_small_b_that_counts_as_zero(self):
        for n in BOTH:
            for b in (n.least, n.greatest_small):
                for s in (0, n.minus):
                    for how in (4, 5, 6, 7, 12, 15):
                        for said, bits in enumerate(answers(n, A[n], s)):
                            table = 0xAAAAAAAA & ~0xF00 | said << 8
                            self.fixed(n, 3, how, table, A[n], b | s, bits, 5)
                    for how in (0, 1, 2, 3, 8, 11):
                        token = 6 if s else 7
                        self.fixed(n, 3, how, 12 << 4 * token, A[n], b | s, NINETY[n], 0)

    def test_plus_and_minus_one(self):
        for n in BOTH:
            table = 0xF << 12 | 0xE << 24 | 0xD << 28
            self.fixed(n, 255, 0, table, 0, n.one, n.greatest | n.minus, 5)
            self.fixed(n, 255, 0, table, 0, n.one | n.minus, n.greatest, 1)
            self.fixed(n, 255, 0, table, 0, n.one + 1, HALF_PI[n], 0)
            self.fixed(n, 255, 0, table, 0, n.one - 1, HALF_PI[n], 0)


class Flags(Hand):
    def test_each_bit_at_each_token(self):
        asked = {0: (2, 4), 1: (2, 1), 2: (3, 4), 3: (3, 1), 4: (1, 1), 5: (4, 1), 6: (6, 1), 7: (5, 1)}
        for n in BOTH:
            for token, listed in tokens(n).items():
                for b in listed:
                    for bit, (told_of, flag) in asked.items():
                        for said in range(16):
                            found = fix(n.f, 1 << bit, 0, said * 0x11111111, A[n], b)
                            self.assertEqual(found[2], flag if token == told_of else 0, (n, bit, said, hex(b)))

    def test_all_bits(self):
        told = {0: 0, 1: 1, 2: 5, 3: 5, 4: 1, 5: 1, 6: 1, 7: 0}
        for n in BOTH:
            for token, listed in tokens(n).items():
                for b in listed:
                    for how in (0, 3, 8):
                        self.fixed(n, 255, how, 0xBBBBBBBB, A[n], b, n.half, told[token])
                        self.fixed(n, 0, how, 0xBBBBBBBB, A[n], b, n.half, 0)


class BesideTheModel(unittest.TestCase):
    def test_many(self):
        for f in (1, 2):
            sampler = Sampler(110 + f)
            for k in range(20000):
                b = sampler.pick([sampler.float_bits(f), sampler.pick(edges(f))]) if k % 4 else sampler.float_bits(f)
                handed = (f, sampler.below(256), sampler.below(16), sampler.below(1 << 32),
                          sampler.below(1 << model.WIDTH[f]), b)
                self.assertEqual(fix(*handed), model_changed.fix(*handed), handed)


if __name__ == "__main__":
    unittest.main()
