"""to_whole and of_whole: floats into whole numbers of a kind and back.

A kind is one of four: 0 32 bits with sign, 1 32 without, 2 64 with, 3 64 without.
"""

from roundedonce.formats import INFINITE
from roundedonce.formats import no_number
from roundedonce.rounding import CUT, INEXACT, INVALID
from roundedonce.rounding import is_lost, rounded_multiple, rounding_of, signed_result, zero_result

KIND_WIDTHS = (32, 32, 64, 64)


def has_sign(kind):
    return kind % 2 == 0


def least_of_kind(kind):
    return -(1 << (KIND_WIDTHS[kind] - 1)) if has_sign(kind) else 0


def greatest_of_kind(kind):
    return least_of_kind(kind) + bit_mask(kind)


def bit_mask(kind):
    return (1 << KIND_WIDTHS[kind]) - 1


def beyond_result(kind):
    """With sign the least one, without it the greatest one stands for what the kind can't tell."""
    bits = 1 << (KIND_WIDTHS[kind] - 1) if has_sign(kind) else bit_mask(kind)
    return (bits, INVALID)


def whole_of(kind, rounding, a):
    if no_number(a) or a.kind == INFINITE:
        return beyond_result(kind)
    size = rounded_multiple(rounding, a.sign, a.whole, -a.power)
    whole = -size if a.sign == 1 else size
    # What is beyond is asked of the rounded number: a little below 0 may still be 0 without sign.
    if whole < least_of_kind(kind) or whole > greatest_of_kind(kind):
        return beyond_result(kind)
    return (whole & bit_mask(kind), INEXACT if is_lost(a.whole, -a.power, size) else 0)


def picked_cut(cut, how):
    return CUT if cut != 0 else rounding_of(how)


def whole_told(kind, v):
    """The whole number that v's bits, as many as the kind has, stand for."""
    bits = v & bit_mask(kind)
    return bits - (1 << KIND_WIDTHS[kind]) if bits > greatest_of_kind(kind) else bits


def float_of(kind, g, how, v):
    whole = whole_told(kind, v)
    if whole == 0:
        return zero_result(g, 0)
    return signed_result(g, how, whole, 0)
