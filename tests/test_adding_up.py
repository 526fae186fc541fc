"""S3: round and reduce add up to a; part (imm 0) and exponent give a back."""

import unittest

from model import FORMATS, HALF, Float, ONE_OPS, Sampler, edges, two_to
from roundedonce.floats import one

ROUND, EXPONENT, PART, REDUCE = (ONE_OPS[name] for name in ("round", "exponent", "part", "reduce"))


def numbers(f, seed, count):
    sampler = Sampler(seed)
    values = edges(f) + [sampler.float_bits(f) for k in range(count)]
    return [bits for bits in values if Float(f, bits).finite]


class AddingUp(unittest.TestCase):
    def test_round_and_reduce_add_up(self):
        for f in FORMATS:
            sampler = Sampler(11 + f)
            exact = 0
            for bits in numbers(f, 1 + f, 1500):
                for how in (0, 1, 2, 3):
                    imm = sampler.below(256) | 8
                    exact += self.adds_up(f, how, imm, bits)
            self.assertGreater(exact, 4000)

    def adds_up(self, f, how, imm, bits):
        """With bit 3 of imm, 32 is there only if reduce's own result was rounded."""
        rounded = Float(f, one(f, ROUND, how, imm, bits)[1])
        reduced = one(f, REDUCE, how, imm, bits)
        if reduced[2] & 32:
            return 0
        self.assertEqual(rounded.value + Float(f, reduced[1]).value, Float(f, bits).value, (f, how, imm, hex(bits)))
        return 1

    def test_reduce_is_rounded_only_where_it_must_be(self):
        # To the nearest multiple nothing is ever left that the format couldn't hold.
        for f in FORMATS:
            for bits in numbers(f, 21 + f, 500):
                for grid in range(16):
                    self.assertEqual(self.adds_up(f, 0, 16 * grid + 8, bits), 1)

    def test_part_and_exponent_give_a_back(self):
        for f in FORMATS:
            for bits in numbers(f, 31 + f, 3000):
                self.given_back(f, bits)

    def test_every_half(self):
        for bits in range(1 << 16):
            if Float(HALF, bits).finite:
                self.given_back(HALF, bits)

    def given_back(self, f, bits):
        a = Float(f, bits)
        if a.kind == "zero":
            return
        for how in (0, 1, 2, 3, 8):
            m = Float(f, one(f, PART, how, 0, bits)[1])
            e = Float(f, one(f, EXPONENT, how, 0, bits)[1])
            self.assertEqual(e.value.denominator, 1)
            self.assertEqual(m.value * two_to(e.value.numerator), a.value)


if __name__ == "__main__":
    unittest.main()
