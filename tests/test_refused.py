"""Wrong inputs, each refused with -1 alone, and their right neighbours, which are not."""

import unittest

from model import FORMATS, ONE_OPS, TWO_OPS, WIDTH
from roundedonce.floats import change, class_of, compare, fix, fused, of_whole, one, order, to_whole, two

GREATEST_32 = 4294967295
GREATEST_64 = 18446744073709551615
ONE_IMMS = {"sqrt": 0, "round": 255, "exponent": 0, "part": 15, "reduce": 255}
TWO_IMMS = {"add": 0, "sub": 0, "mul": 0, "div": 0, "least": 0, "greatest": 0, "scale": 0, "range": 15}


def too_wide(f):
    """Bits above the format's; of double there are none."""
    wide = (1 << WIDTH[f], (1 << WIDTH[f]) + 0x3C00, 1 << 63, GREATEST_64)
    return [bits for bits in wide if bits >> WIDTH[f] and bits <= GREATEST_64]


def widest(f):
    return (1 << WIDTH[f]) - 1


class Answers(unittest.TestCase):
    def refused(self, call, *handed):
        self.assertEqual(call(*handed), [-1], (call, handed))

    def taken(self, call, *handed):
        found = call(*handed)
        self.assertEqual((len(found), found[0]), (2 if call is class_of else 3, 0), (call, handed))


class OneAndTwo(Answers):
    def formats_of(self, name):
        return [f for f in FORMATS if name != "range" or f != 0]

    def test_f_above_two(self):
        for f in (3, 4, 16, GREATEST_32):
            for op in ONE_OPS.values():
                self.refused(one, f, op, 0, 0, 0)
            for op in TWO_OPS.values():
                self.refused(two, f, op, 0, 0, 0, 0)

    def test_op_that_is_not(self):
        for f in FORMATS:
            for op in (5, 6, 7, 8, GREATEST_32):
                self.refused(one, f, op, 0, 0, 0)
            for op in (8, 9, 16, GREATEST_32):
                self.refused(two, f, op, 0, 0, 0, 0)

    def test_how_above_fifteen(self):
        for f in FORMATS:
            for how in (16, 17, 32, GREATEST_32):
                for op in ONE_OPS.values():
                    self.refused(one, f, op, how, 0, 0)
                for op in TWO_OPS.values():
                    self.refused(two, f, op, how, 0, 0, 0)

    def test_every_how_up_to_fifteen(self):
        for how in range(16):
            for name, op in ONE_OPS.items():
                for f in self.formats_of(name):
                    self.taken(one, f, op, how, 0, 0)
            for name, op in TWO_OPS.items():
                for f in self.formats_of(name):
                    self.taken(two, f, op, how, 0, 0, 0)

    def test_imm_above_what_is_told(self):
        for name, op in ONE_OPS.items():
            top = ONE_IMMS[name]
            for f in FORMATS:
                self.taken(one, f, op, 0, top, 0)
                for imm in (top + 1, top + 16, 256, GREATEST_32):
                    self.refused(one, f, op, 0, imm, 0)
        for name, op in TWO_OPS.items():
            top = TWO_IMMS[name]
            for f in self.formats_of(name):
                self.taken(two, f, op, 0, top, 0, 0)
                for imm in (top + 1, top + 16, 256, GREATEST_32):
                    self.refused(two, f, op, 0, imm, 0, 0)

    def test_range_of_half(self):
        for imm in range(16):
            for how in range(16):
                self.refused(two, 0, TWO_OPS["range"], how, imm, 0x3C00, 0x4000)

    def test_bits_above_the_formats(self):
        for f in FORMATS:
            wide = too_wide(f)
            for op in ONE_OPS.values():
                self.taken(one, f, op, 0, 0, widest(f))
                for bits in wide:
                    self.refused(one, f, op, 0, 0, bits)
            for name, op in TWO_OPS.items():
                for bits in wide:
                    self.refused(two, f, op, 0, 0, bits, 0)
                    self.refused(two, f, op, 0, 0, 0, bits)
                    self.refused(two, f, op, 0, 0, bits, bits)
                if f in self.formats_of(name):
                    self.taken(two, f, op, 0, 0, widest(f), widest(f))

    def test_double_takes_all_bits(self):
        for op in ONE_OPS.values():
            self.taken(one, 2, op, 15, 0, GREATEST_64)
        for op in TWO_OPS.values():
            self.taken(two, 2, op, 15, 0, GREATEST_64, GREATEST_64)

    def test_a_wrong_input_beside_no_numbers(self):
        # What is refused is refused ahead of all else.
        self.refused(two, 1, TWO_OPS["add"], 0, 0, 0x7F800001, 1 << 32)
        self.refused(two, 1, TWO_OPS["least"], 0, 1, 0x7F800001, 0)
        self.refused(one, 1, ONE_OPS["sqrt"], 0, 1, 0x7F800001)

    def test_all_at_their_greatest(self):
        self.refused(one, GREATEST_32, GREATEST_32, GREATEST_32, GREATEST_32, GREATEST_64)
        self.refused(two, GREATEST_32, GREATEST_32, GREATEST_32, GREATEST_32, GREATEST_64, GREATEST_64)


class Fused(Answers):
    def test_f_above_two(self):
        for f in (3, 4, 16, GREATEST_32):
            for sort in range(4):
                self.refused(fused, f, sort, 0, 0, 0, 0)

    def test_sort_that_is_not(self):
        for f in FORMATS:
            for sort in range(4):
                self.taken(fused, f, sort, 0, 0, 0, 0)
            for sort in (4, 5, 7, 8, 16, 31, 32, GREATEST_32):
                self.refused(fused, f, sort, 0, 0, 0, 0)

    def test_how_above_fifteen(self):
        for f in FORMATS:
            for sort in range(4):
                for how in range(16):
                    self.taken(fused, f, sort, how, 0, 0, 0)
                for how in (16, 17, 32, 64, GREATEST_32):
                    self.refused(fused, f, sort, how, 0, 0, 0)

    def test_bits_above_the_formats(self):
        for f in FORMATS:
            for sort in range(4):
                self.taken(fused, f, sort, 15, widest(f), widest(f), widest(f))
                for bits in too_wide(f):
                    self.refused(fused, f, sort, 0, bits, 0, 0)
                    self.refused(fused, f, sort, 0, 0, bits, 0)
                    self.refused(fused, f, sort, 0, 0, 0, bits)
                    self.refused(fused, f, sort, 0, widest(f), widest(f), bits)

    def test_all_at_their_greatest(self):
        self.refused(fused, GREATEST_32, GREATEST_32, GREATEST_32, GREATEST_64, GREATEST_64, GREATEST_64)
        self.taken(fused, 2, 3, 15, GREATEST_64, GREATEST_64, GREATEST_64)


class Compare(Answers):
    def test_f_above_two(self):
        for f in (3, 4, 16, GREATEST_32):
            for sort in range(32):
                self.refused(compare, f, sort, 0, 0, 0)

    def test_sort_that_is_not(self):
        for f in FORMATS:
            for sort in range(32):
                self.taken(compare, f, sort, 0, 0, 0)
            for sort in (32, 33, 47, 48, 64, GREATEST_32):
                self.refused(compare, f, sort, 0, 0, 0)

    def test_how_above_fifteen(self):
        for f in FORMATS:
            for sort in range(32):
                for how in range(16):
                    self.taken(compare, f, sort, how, 0, 0)
                for how in (16, 17, 32, 64, GREATEST_32):
                    self.refused(compare, f, sort, how, 0, 0)

    def test_bits_above_the_formats(self):
        for f in FORMATS:
            for sort in range(32):
                self.taken(compare, f, sort, 15, widest(f), widest(f))
                for bits in too_wide(f):
                    self.refused(compare, f, sort, 0, bits, 0)
                    self.refused(compare, f, sort, 0, 0, bits)
                    self.refused(compare, f, sort, 0, bits, widest(f))

    def test_all_at_their_greatest(self):
        self.refused(compare, GREATEST_32, GREATEST_32, GREATEST_32, GREATEST_64, GREATEST_64)
        self.taken(compare, 2, 31, 15, GREATEST_64, GREATEST_64)


class Order(Answers):
    def test_f_above_two(self):
        for f in (3, 4, 16, GREATEST_32):
            for strict in (0, 1, GREATEST_32):
                self.refused(order, f, strict, 0, 0, 0)

    def test_no_strict_is_refused(self):
        for f in FORMATS:
            for strict in (0, 1, 2, 15, 16, 255, 256, 1 << 31, GREATEST_32):
                self.taken(order, f, strict, 0, 0, 0)

    def test_how_above_fifteen(self):
        for f in FORMATS:
            for strict in (0, 1):
                for how in range(16):
                    self.taken(order, f, strict, how, 0, 0)
                for how in (16, 17, 32, 64, GREATEST_32):
                    self.refused(order, f, strict, how, 0, 0)

    def test_bits_above_the_formats(self):
        for f in FORMATS:
            for strict in (0, 1):
                self.taken(order, f, strict, 15, widest(f), widest(f))
                for bits in too_wide(f):
                    self.refused(order, f, strict, 0, bits, 0)
                    self.refused(order, f, strict, 0, 0, bits)
                    self.refused(order, f, strict, 0, bits, widest(f))

    def test_all_at_their_greatest(self):
        self.refused(order, GREATEST_32, GREATEST_32, GREATEST_32, GREATEST_64, GREATEST_64)
        self.taken(order, 2, GREATEST_32, 15, GREATEST_64, GREATEST_64)


class ClassOf(Answers):
    def test_f_above_two(self):
        for f in (3, 4, 16, GREATEST_32):
            for imm in (0, 2, 255):
                self.refused(class_of, f, imm, 0, 0)

    def test_imm_above_255(self):
        for f in FORMATS:
            for imm in range(256):
                self.taken(class_of, f, imm, 0, 0)
            for imm in (256, 257, 511, 512, GREATEST_32):
                self.refused(class_of, f, imm, 0, 0)

    def test_how_above_fifteen(self):
        for f in FORMATS:
            for how in range(16):
                self.taken(class_of, f, 255, how, 0)
            for how in (16, 17, 32, 64, GREATEST_32):
                self.refused(class_of, f, 255, how, 0)

    def test_bits_above_the_formats(self):
        for f in FORMATS:
            self.taken(class_of, f, 255, 15, widest(f))
            for bits in too_wide(f):
                self.refused(class_of, f, 255, 0, bits)

    def test_all_at_their_greatest(self):
        self.refused(class_of, GREATEST_32, GREATEST_32, GREATEST_32, GREATEST_64)
        self.taken(class_of, 2, 255, 15, GREATEST_64)


class Fix(Answers):
    def test_f_zero_and_above_two(self):
        for f in (0, 3, 4, 16, GREATEST_32):
            for how in range(16):
                self.refused(fix, f, 0, how, 0x11111111, 0, 0)
                self.refused(fix, f, 255, how, GREATEST_32, 0x3C00, 0x3C00)

    def test_imm_above_255(self):
        for f in (1, 2):
            for imm in range(256):
                self.taken(fix, f, imm, 0, 0, 0, 0)
            for imm in (256, 257, 511, 512, GREATEST_32):
                self.refused(fix, f, imm, 0, 0, 0, 0)

    def test_how_above_fifteen(self):
        for f in (1, 2):
            for how in range(16):
                self.taken(fix, f, 0, how, 0, 0, 0)
            for how in (16, 17, 32, 64, GREATEST_32):
                self.refused(fix, f, 0, how, 0, 0, 0)

    def test_no_table_is_refused(self):
        for f in (1, 2):
            for table in (0, 1, 0x80000000, GREATEST_32):
                self.taken(fix, f, 0, 0, table, 0, 0)

    def test_bits_above_the_formats(self):
        for f in (1, 2):
            for table in (0, 0x11111111, 0xAAAAAAAA):
                self.taken(fix, f, 255, 15, table, widest(f), widest(f))
                for bits in too_wide(f):
                    # Of a too, though it isn't looked into.
                    self.refused(fix, f, 0, 0, table, bits, 0)
                    self.refused(fix, f, 0, 0, table, 0, bits)
                    self.refused(fix, f, 0, 0, table, bits, bits)

    def test_all_at_their_greatest(self):
        self.refused(fix, GREATEST_32, GREATEST_32, GREATEST_32, GREATEST_32, GREATEST_64, GREATEST_64)
        self.taken(fix, 2, 255, 15, GREATEST_32, GREATEST_64, GREATEST_64)


class Change(Answers):
    def test_f_and_g_above_two(self):
        for wrong in (3, 4, 16, GREATEST_32):
            for right in FORMATS:
                self.refused(change, wrong, right, 0, 0)
                self.refused(change, right, wrong, 0, 0)
            self.refused(change, wrong, wrong, 0, 0)
        self.refused(change, 3, 4, 0, 0)

    def test_f_the_same_as_g(self):
        for f in FORMATS:
            for g in FORMATS:
                for how in range(16):
                    (self.refused if f == g else self.taken)(change, f, g, how, 0)

    def test_how_above_fifteen(self):
        for f in FORMATS:
            for g in FORMATS:
                for how in (16, 17, 32, 64, GREATEST_32):
                    self.refused(change, f, g, how, 0)

    def test_bits_above_the_formats(self):
        for f in FORMATS:
            for g in FORMATS:
                if f != g:
                    # What counts is f's width, not g's.
                    self.taken(change, f, g, 15, widest(f))
                    for bits in too_wide(f):
                        self.refused(change, f, g, 0, bits)

    def test_all_at_their_greatest(self):
        self.refused(change, GREATEST_32, GREATEST_32, GREATEST_32, GREATEST_64)
        self.refused(change, GREATEST_32, 1, 0, GREATEST_64)
        self.taken(change, 2, 0, 15, GREATEST_64)


class ToWhole(Answers):
    def test_f_above_two(self):
        for f in (3, 4, 16, GREATEST_32):
            for kind in range(4):
                self.refused(to_whole, f, kind, 0, 0, 0)

    def test_kind_that_is_not(self):
        for f in FORMATS:
            for cut in (0, 1, GREATEST_32):
                for kind in range(4):
                    self.taken(to_whole, f, kind, cut, 0, 0)
                for kind in (4, 5, 7, 8, 32, 64, GREATEST_32):
                    self.refused(to_whole, f, kind, cut, 0, 0)

    def test_no_cut_is_refused(self):
        for f in FORMATS:
            for kind in range(4):
                for cut in (0, 1, 2, 3, 4, 15, 16, 255, 256, 1 << 31, GREATEST_32):
                    self.taken(to_whole, f, kind, cut, 0, 0)

    def test_how_above_fifteen(self):
        for f in FORMATS:
            for kind in range(4):
                for how in range(16):
                    self.taken(to_whole, f, kind, 0, how, 0)
                for how in (16, 17, 32, 64, GREATEST_32):
                    self.refused(to_whole, f, kind, 0, how, 0)
                    self.refused(to_whole, f, kind, 1, how, 0)

    def test_bits_above_the_formats(self):
        for f in FORMATS:
            for kind in range(4):
                self.taken(to_whole, f, kind, 0, 15, widest(f))
                for bits in too_wide(f):
                    self.refused(to_whole, f, kind, 0, 0, bits)

    def test_all_at_their_greatest(self):
        self.refused(to_whole, GREATEST_32, GREATEST_32, GREATEST_32, GREATEST_32, GREATEST_64)
        self.taken(to_whole, 2, 3, GREATEST_32, 15, GREATEST_64)


class OfWhole(Answers):
    def test_g_above_two(self):
        for g in (3, 4, 16, GREATEST_32):
            for kind in range(4):
                self.refused(of_whole, kind, g, 0, 0)

    def test_kind_that_is_not(self):
        for g in FORMATS:
            for kind in range(4):
                self.taken(of_whole, kind, g, 0, 0)
            for kind in (4, 5, 7, 8, 32, 64, GREATEST_32):
                self.refused(of_whole, kind, g, 0, 0)

    def test_how_above_fifteen(self):
        for g in FORMATS:
            for kind in range(4):
                for how in range(16):
                    self.taken(of_whole, kind, g, how, 0)
                for how in (16, 17, 32, 64, GREATEST_32):
                    self.refused(of_whole, kind, g, how, 0)

    def test_no_v_is_refused(self):
        for g in FORMATS:
            for kind in range(4):
                for v in (0, 1 << 16, 1 << 31, 1 << 32, 1 << 63, GREATEST_64):
                    self.taken(of_whole, kind, g, 0, v)

    def test_all_at_their_greatest(self):
        self.refused(of_whole, GREATEST_32, GREATEST_32, GREATEST_32, GREATEST_64)
        self.taken(of_whole, 3, 2, 15, GREATEST_64)


if __name__ == "__main__":
    unittest.main()
