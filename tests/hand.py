"""The four roundings, and the numbers of each format that tests write out by hand."""

NEAR, DOWN, UP, CUT = range(4)
ROUNDINGS = (NEAR, DOWN, UP, CUT)
COUNT_AS_ZERO, FLUSH = 4, 8


class Half:
    f = 0
    minus = 0x8000
    least, greatest_small, least_normal = 0x0001, 0x03FF, 0x0400
    one, one_and_half, two, half, three, ten = 0x3C00, 0x3E00, 0x4000, 0x3800, 0x4200, 0x4900
    greatest, infinite = 0x7BFF, 0x7C00
    quiet, loud, quieted, empty = 0x7E05, 0x7C05, 0x7E05, 0xFE00
    last_digit, half_digit = 0x1400, 0x1000  # 2^-10, 2^-11
    least_exponent, negative_one_exponent = 0xCE00, 0xBC00  # -24, -1


class Single:
    f = 1
    minus = 0x80000000
    least, greatest_small, least_normal = 0x00000001, 0x007FFFFF, 0x00800000
    one, one_and_half, two, half, three, ten = (
        0x3F800000, 0x3FC00000, 0x40000000, 0x3F000000, 0x40400000, 0x41200000)
    greatest, infinite = 0x7F7FFFFF, 0x7F800000
    quiet, loud, quieted, empty = 0x7FC00005, 0x7F800005, 0x7FC00005, 0xFFC00000
    last_digit, half_digit = 0x34000000, 0x33800000  # 2^-23, 2^-24
    least_exponent, negative_one_exponent = 0xC3150000, 0xBF800000  # -149, -1


class Double:
    f = 2
    minus = 0x8000000000000000
    least, greatest_small, least_normal = 0x1, 0x000FFFFFFFFFFFFF, 0x0010000000000000
    one, one_and_half, two, half, three, ten = (
        0x3FF0000000000000, 0x3FF8000000000000, 0x4000000000000000,
        0x3FE0000000000000, 0x4008000000000000, 0x4024000000000000)
    greatest, infinite = 0x7FEFFFFFFFFFFFFF, 0x7FF0000000000000
    quiet, loud, quieted, empty = 0x7FF8000000000005, 0x7FF0000000000005, 0x7FF8000000000005, 0xFFF8000000000000
    last_digit, half_digit = 0x3CB0000000000000, 0x3CA0000000000000  # 2^-52, 2^-53
    least_exponent, negative_one_exponent = 0xC090C80000000000, 0xBFF0000000000000  # -1074, -1


FORMATS = (Half, Single, Double)
