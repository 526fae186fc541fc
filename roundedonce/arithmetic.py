"""add, sub, mul, div, sqrt and scale of operands that are numbers: bits and flags."""

from roundedonce.formats import DIGITS, INFINITE, ZERO
from roundedonce.formats import below_zero, infinite_bits, signed_whole, turned
from roundedonce.rounding import BY_ZERO
from roundedonce.rounding import infinite_result, invalid_result, result, result_with_rest
from roundedonce.rounding import signed_result, unlike_zero_sign, zero_result

# Beyond this every format has overflowed, or has nothing left but what's lost.
FARTHEST_SCALE = 10000


def add(f, how, a, b):
    if a.kind == INFINITE and b.kind == INFINITE and a.sign != b.sign:
        return invalid_result(f)
    if a.kind == INFINITE:
        return (a.bits, 0)
    if b.kind == INFINITE:
        return (b.bits, 0)
    power = min(a.power, b.power)
    whole = (signed_whole(a) << (a.power - power)) + (signed_whole(b) << (b.power - power))
    if whole == 0:
        return zero_result(f, zero_sum_sign(how, a, b))
    return signed_result(f, how, whole, power)


def zero_sum_sign(how, a, b):
    # Of one sign only two zeros add up to 0.
    if a.sign == b.sign:
        return a.sign
    return unlike_zero_sign(how)


def sub(f, how, a, b):
    return add(f, how, a, turned(f, b))


def mul(f, how, a, b):
    sign = a.sign ^ b.sign
    a_zero = a.kind == ZERO
    b_zero = b.kind == ZERO
    if a.kind == INFINITE or b.kind == INFINITE:
        return invalid_result(f) if a_zero or b_zero else infinite_result(f, sign)
    if a_zero or b_zero:
        return zero_result(f, sign)
    return result(f, how, sign, a.whole * b.whole, a.power + b.power)


def div(f, how, a, b):
    sign = a.sign ^ b.sign
    if a.kind == b.kind and (a.kind == ZERO or a.kind == INFINITE):
        return invalid_result(f)
    if a.kind == INFINITE:
        return infinite_result(f, sign)
    if b.kind == ZERO:
        return (infinite_bits(f, sign), BY_ZERO)
    if a.kind == ZERO or b.kind == INFINITE:
        return zero_result(f, sign)
    return finite_quotient(f, how, sign, a, b)


def finite_quotient(f, how, sign, a, b):
    shift = DIGITS[f] + 2 + b.whole.bit_length()
    dividend = a.whole << shift
    quotient = dividend // b.whole
    return result_with_rest(f, how, sign, quotient, a.power - b.power - shift, quotient * b.whole != dividend)


def sqrt(f, how, a):
    if below_zero(a):
        return invalid_result(f)
    if a.kind == ZERO or a.kind == INFINITE:
        return (a.bits, 0)
    # An even power is left, and digits enough that the root has two more than the format.
    shift = 2 * DIGITS[f] + 4 + a.power % 2
    square = a.whole << shift
    root = whole_root(square)
    return result_with_rest(f, how, 0, root, (a.power - shift) // 2, root * root != square)


def whole_root(square):
    """The greatest whole number whose square is not above the given one, which is above 0."""
    root = 1 << ((square.bit_length() + 1) // 2)
    closer = (root + square // root) // 2
    while closer < root:
        root = closer
        closer = (root + square // root) // 2
    return root


def scale(f, how, a, b):
    if b.kind == INFINITE:
        return scaled_without_end(f, a, b)
    if a.kind == ZERO or a.kind == INFINITE:
        return (a.bits, 0)
    steps = min(max(whole_not_above(b), -FARTHEST_SCALE), FARTHEST_SCALE)
    return result(f, how, a.sign, a.whole, a.power + steps)


def scaled_without_end(f, a, b):
    if b.sign == 0:
        return invalid_result(f) if a.kind == ZERO else infinite_result(f, a.sign)
    return invalid_result(f) if a.kind == INFINITE else zero_result(f, a.sign)


def whole_not_above(operand):
    """The greatest whole number not above a finite operand."""
    if operand.power >= 0:
        return signed_whole(operand) << operand.power
    return signed_whole(operand) >> -operand.power
