"""change: a float of one format as a float of another, bits and flags."""

from roundedonce.formats import DIGITS, INFINITE, LOUD, ZERO
from roundedonce.formats import infinite_bits, no_number, quiet_bit
from roundedonce.rounding import INVALID
from roundedonce.rounding import infinite_result, result, zero_result


def changed(f, g, how, a):
    if no_number(a):
        return changed_no_number(f, g, a)
    if a.kind == INFINITE:
        return infinite_result(g, a.sign)
    if a.kind == ZERO:
        return zero_result(g, a.sign)
    return result(g, how, a.sign, a.whole, a.power)


def changed_no_number(f, g, a):
    fraction = a.rank - infinite_bits(f, 0)
    more = DIGITS[g] - DIGITS[f]
    kept = fraction << more if more > 0 else fraction >> -more
    return (infinite_bits(g, a.sign) | quiet_bit(g) | kept, INVALID if a.kind == LOUD else 0)
