"""least, greatest and range: one of the two operands is answered, nothing is rounded.

Each has its own words about no numbers, so each tells its flags whole.
"""

from roundedonce.comparing import small_flags, value_place
from roundedonce.formats import LOUD
from roundedonce.formats import no_number, quiet_bit, zero_bits
from roundedonce.rounding import INVALID


def least(a, b):
    if no_number(a) or no_number(b):
        return (b.bits, INVALID)
    chosen = a if value_place(a) < value_place(b) else b
    return (chosen.bits, small_flags(a, b))


def greatest(a, b):
    if no_number(a) or no_number(b):
        return (b.bits, INVALID)
    chosen = a if value_place(a) > value_place(b) else b
    return (chosen.bits, small_flags(a, b))


def in_range(f, imm, a, b):
    if a.kind == LOUD:
        return (a.bits | quiet_bit(f), INVALID)
    if b.kind == LOUD:
        return (b.bits | quiet_bit(f), INVALID)
    if no_number(a) and no_number(b):
        return (a.bits, 0)
    if no_number(a):
        return (resigned_bits(f, imm, a, b), 0)
    if no_number(b):
        return (resigned_bits(f, imm, a, a), 0)
    return (resigned_bits(f, imm, a, picked(imm, a, b)), small_flags(a, b))


def signed_place(operand):
    """Like value_place, but minus zero stands below plus zero, and all below 0 a step lower still."""
    return value_place(operand) - operand.sign


def picked(imm, a, b):
    lesser = a if signed_place(a) < signed_place(b) else b
    greater = b if signed_place(a) < signed_place(b) else a
    if imm & 3 == 0:
        return lesser
    if imm & 3 == 1:
        return greater
    if imm & 3 == 2:
        return greater if greater.rank < lesser.rank else lesser
    return lesser if lesser.rank > greater.rank else greater


def resigned_bits(f, imm, a, chosen):
    choice = imm >> 2
    if choice == 0:
        sign = a.sign
    elif choice == 1:
        sign = chosen.sign
    else:
        sign = choice - 2
    return zero_bits(f, sign) + chosen.rank
