"""fused of operands that are numbers: a product and a sum, exact until the one rounding at the end."""

from roundedonce.formats import INFINITE, ZERO
from roundedonce.formats import turned
from roundedonce.rounding import infinite_result, invalid_result, signed_result, zero_result
from roundedonce.rounding import unlike_zero_sign


def multiply_add(f, sort, how, a, b, c):
    """The sort's bit 1 turns the product, its bit 0 turns c."""
    sign = a.sign ^ b.sign ^ (sort >> 1)
    added = turned(f, c) if sort & 1 else c
    if a.kind == INFINITE or b.kind == INFINITE:
        return infinite_product_sum(f, sign, a, b, added)
    if added.kind == INFINITE:
        return infinite_result(f, added.sign)
    return finite_product_sum(f, how, sign, a, b, added)


def infinite_product_sum(f, sign, a, b, added):
    if a.kind == ZERO or b.kind == ZERO:
        return invalid_result(f)
    if added.kind == INFINITE and added.sign != sign:
        return invalid_result(f)
    return infinite_result(f, sign)


def finite_product_sum(f, how, sign, a, b, added):
    product = a.whole * b.whole
    product_power = a.power + b.power
    power = min(product_power, added.power)
    whole = signed(sign, product << (product_power - power)) + signed(added.sign, added.whole << (added.power - power))
    if whole != 0:
        return signed_result(f, how, whole, power)
    # Of one sign only two zeros add up to 0.
    if sign == added.sign:
        return zero_result(f, sign)
    return zero_result(f, unlike_zero_sign(how))


def signed(sign, size):
    return -size if sign == 1 else size
