"""round, reduce, exponent and part of an operand that is a number: bits and flags."""

from roundedonce.formats import INFINITE, ZERO
from roundedonce.formats import below_zero, top_exponent, zero_bits
from roundedonce.rounding import DOWN, INEXACT
from roundedonce.rounding import infinite_result, invalid_result, result, rounded_multiple, rounding_of
from roundedonce.rounding import signed_result, zero_result


def picked_rounding(how, imm):
    return rounding_of(how) if imm & 4 else imm & 3


def told_loss(imm):
    """The flag of a value off the grid, where imm doesn't ask for silence."""
    return 0 if imm & 8 else INEXACT


def grid_multiple(how, imm, a):
    """How often 2^-M goes into the size of a finite one, rounded as imm picks it."""
    return rounded_multiple(picked_rounding(how, imm), a.sign, a.whole, -(imm >> 4) - a.power)


def off_grid(imm, a, multiple):
    """What is left of a without that multiple: a whole number, and the power of two it counts."""
    grid_power = -(imm >> 4)
    power = min(grid_power, a.power)
    rest = (a.whole << (a.power - power)) - (multiple << (grid_power - power))
    return (-rest if a.sign == 1 else rest, power)


def grid_round(f, how, imm, a):
    if a.kind == ZERO or a.kind == INFINITE:
        return (a.bits, 0)
    multiple = grid_multiple(how, imm, a)
    flags = 0 if off_grid(imm, a, multiple)[0] == 0 else told_loss(imm)
    if multiple == 0:
        return (zero_bits(f, a.sign), flags)
    return (result(f, how, a.sign, multiple, -(imm >> 4))[0], flags)


def grid_reduce(f, how, imm, a):
    if a.kind == INFINITE:
        return zero_result(f, 0)
    rest = off_grid(imm, a, grid_multiple(how, imm, a))
    if rest[0] == 0:
        return zero_result(f, 1 if picked_rounding(how, imm) == DOWN else 0)
    difference = signed_result(f, how, rest[0], rest[1])
    return (difference[0], difference[1] | told_loss(imm))


def exponent_of(f, how, a):
    if a.kind == ZERO:
        return infinite_result(f, 1)
    if a.kind == INFINITE:
        return infinite_result(f, 0)
    exponent = top_exponent(a)
    if exponent == 0:
        return zero_result(f, 0)
    return signed_result(f, how, exponent, 0)


def part_of(f, how, imm, a):
    choice = imm >> 2
    if choice >= 2 and below_zero(a):
        return invalid_result(f)
    sign = 0 if choice == 1 else a.sign
    if a.kind == ZERO or a.kind == INFINITE:
        return result(f, how, sign, 1, 0)
    power = 1 - a.whole.bit_length()
    return result(f, how, sign, a.whole, power - 1 if part_is_halved(imm, a) else power)


def part_is_halved(imm, a):
    if imm & 3 == 1:
        return top_exponent(a) % 2 == 1
    if imm & 3 == 3:
        return 2 * a.whole >= 3 << (a.whole.bit_length() - 1)
    return imm & 3 == 2
