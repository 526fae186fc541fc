"""Exact values rounded, and the flags that come of it."""

from roundedonce.formats import DIGITS, GREATEST_EXPONENTS, HALF
from roundedonce.formats import empty_bits, greatest_bits, infinite_bits, least_exponent, least_power
from roundedonce.formats import packed_bits, zero_bits

NEAR = 0
DOWN = 1
UP = 2
CUT = 3

INVALID = 1
CAME_SMALL = 2
BY_ZERO = 4
OVERFLOW = 8
UNDERFLOW = 16
INEXACT = 32


def rounding_of(how):
    return how & 3


def goes_outward(rounding, sign):
    """Whether a directed rounding takes what has this sign away from 0."""
    return rounding == (DOWN if sign == 1 else UP)


def unlike_zero_sign(how):
    """The sign of an exact 0 that isn't the sum of two zeros of one sign."""
    return 1 if rounding_of(how) == DOWN else 0


def rounded_multiple(rounding, sign, whole, shift):
    """The size whole 2^-shift, of a value of this sign, rounded to a whole number."""
    if shift <= 0:
        return whole << -shift
    lower = whole >> shift
    rest = whole - (lower << shift)
    if rest == 0:
        return lower
    if rounding == NEAR:
        middle = 1 << (shift - 1)
        return lower + 1 if rest > middle or (rest == middle and lower & 1) else lower
    return lower + 1 if goes_outward(rounding, sign) else lower


def is_lost(whole, shift, multiple):
    """Whether the multiple that whole 2^-shift was rounded to isn't the same value."""
    return shift > 0 and multiple << shift != whole


def overflowed(f, rounding, sign):
    flags = OVERFLOW | INEXACT
    if rounding == NEAR or goes_outward(rounding, sign):
        return (infinite_bits(f, sign), flags)
    return (greatest_bits(f, sign), flags)


def tiny_result(f, how, sign, whole, power):
    if how & 8 and f != HALF:
        return (zero_bits(f, sign), UNDERFLOW | INEXACT)
    shift = least_power(f) - power
    multiple = rounded_multiple(rounding_of(how), sign, whole, shift)
    flags = UNDERFLOW | INEXACT if is_lost(whole, shift, multiple) else 0
    return (packed_bits(f, sign, multiple, least_power(f)), flags)


def result(f, how, sign, whole, power):
    """The exact value whole 2^power (not 0) of this sign as a result: its bits and flags."""
    rounding = rounding_of(how)
    shift = whole.bit_length() - DIGITS[f]
    multiple = rounded_multiple(rounding, sign, whole, shift)
    exponent = multiple.bit_length() - 1 + shift + power
    if exponent > GREATEST_EXPONENTS[f]:
        return overflowed(f, rounding, sign)
    # Tiny is asked of what was rounded to all digits, so a size that is rounded up to 2^emin is not.
    if exponent < least_exponent(f):
        return tiny_result(f, how, sign, whole, power)
    flags = INEXACT if is_lost(whole, shift, multiple) else 0
    return (packed_bits(f, sign, multiple, power + shift), flags)


def signed_result(f, how, whole, power):
    return result(f, how, 1 if whole < 0 else 0, abs(whole), power)


def result_with_rest(f, how, sign, whole, power, has_rest):
    """The result of whole 2^power and, if it has a rest, of less than 2^power more.

    One digit more stands for the rest. The exact value is rounded alike, and has the same flags,
    as whole has two digits more than the format: no float and no middle of two lies between.
    """
    return result(f, how, sign, 2 * whole + (1 if has_rest else 0), power - 1)


def zero_result(f, sign):
    return (zero_bits(f, sign), 0)


def infinite_result(f, sign):
    return (infinite_bits(f, sign), 0)


def invalid_result(f):
    return (empty_bits(f), INVALID)
