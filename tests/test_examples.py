"""The document's examples, as they stand there."""

import unittest

from roundedonce.floats import change, compare, fix, fused, of_whole, one, to_whole, two

SQRT, ROUND, EXPONENT, PART, REDUCE = range(5)
ADD, SUB, MUL, DIV, LEAST, GREATEST, SCALE, RANGE = range(8)


class Examples(unittest.TestCase):
    def two(self, op, how, a, b, bits, flags):
        self.assertEqual(two(1, op, how, 0, a, b), [0, bits, flags])

    def one(self, op, imm, a, bits, flags):
        self.assertEqual(one(1, op, 0, imm, a), [0, bits, flags])

    def test_add(self):
        self.two(ADD, 0, 0x3F800000, 0x33800000, 0x3F800000, 32)
        self.two(ADD, 2, 0x3F800000, 0x33800000, 0x3F800001, 32)

    def test_add_of_small_ones(self):
        self.two(ADD, 0, 0x00000001, 0x00000001, 0x00000002, 2)
        self.two(ADD, 8, 0x00000001, 0x00000001, 0x00000000, 2 + 16 + 32)
        self.two(ADD, 4, 0x00000001, 0x00000001, 0x00000000, 0)

    def test_add_of_no_numbers(self):
        self.two(ADD, 0, 0xFF800001, 0x7FC00001, 0xFFC00001, 1)

    def test_div_by_zero(self):
        self.two(DIV, 0, 0x3F800000, 0x80000000, 0xFF800000, 4)

    def test_least_of_no_numbers(self):
        self.two(LEAST, 0, 0x7FC00000, 0x3F800000, 0x3F800000, 1)
        self.two(LEAST, 0, 0x3F800000, 0x7F800001, 0x7F800001, 1)

    def test_scale(self):
        self.two(SCALE, 0, 0x3F800000, 0xBFC00000, 0x3E800000, 0)

    def test_round(self):
        self.one(ROUND, 0, 0x40200000, 0x40000000, 32)
        self.one(ROUND, 18, 0x40200000, 0x40200000, 0)

    def test_reduce(self):
        self.one(REDUCE, 0, 0x40200000, 0x3F000000, 32)

    def test_part(self):
        self.one(PART, 0, 0xC1200000, 0xBFA00000, 0)
        self.one(PART, 1, 0xC1200000, 0xBF200000, 0)
        self.one(PART, 5, 0xC1200000, 0x3F200000, 0)
        self.one(PART, 8, 0xC1200000, 0xFFC00000, 1)

    def test_exponent(self):
        self.one(EXPONENT, 0, 0xC1200000, 0x40400000, 0)

    def test_fused(self):
        self.assertEqual(fused(1, 0, 0, 0x3F800001, 0x3F800001, 0xBF800002), [0, 0x28800000, 0])

    def test_compare(self):
        self.assertEqual(compare(1, 1, 0, 0x7FC00000, 0x3F800000), [0, 0, 1])
        self.assertEqual(compare(1, 17, 0, 0x7FC00000, 0x3F800000), [0, 0, 0])

    def test_change(self):
        self.assertEqual(change(2, 0, 0, 0x3FF0000000000001), [0, 0x3C00, 32])
        self.assertEqual(change(1, 2, 0, 0x7F800001), [0, 0x7FF8000020000000, 1])

    def test_fix(self):
        for a in (0, 0x12345678, 0x7F800001):
            self.assertEqual(fix(1, 8, 0, 0x00009000, a, 0x3F800000), [0, 0xBF800000, 1])

    def test_to_whole(self):
        self.assertEqual(to_whole(1, 1, 0, 0, 0xBECCCCCD), [0, 0, 32])
        self.assertEqual(to_whole(1, 1, 0, 0, 0xBF800000), [0, 4294967295, 1])

    def test_of_whole(self):
        self.assertEqual(of_whole(0, 0, 0, 65520), [0, 0x7C00, 40])


if __name__ == "__main__":
    unittest.main()
