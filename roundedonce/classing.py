"""The class of an operand, as the bits of imm tell it."""

from roundedonce.formats import INFINITE, LOUD, QUIET, SMALL, ZERO

QUIET_CLASS = 1
PLUS_ZERO_CLASS = 2
MINUS_ZERO_CLASS = 4
PLUS_INFINITE_CLASS = 8
MINUS_INFINITE_CLASS = 16
SMALL_CLASS = 32
FINITE_BELOW_ZERO_CLASS = 64
LOUD_CLASS = 128


def class_bits(operand):
    """All bits that tell the operand's class: none of normal ones above 0, two of small ones below it."""
    minus = operand.sign == 1
    if operand.kind == QUIET:
        return QUIET_CLASS
    if operand.kind == LOUD:
        return LOUD_CLASS
    if operand.kind == ZERO:
        return MINUS_ZERO_CLASS if minus else PLUS_ZERO_CLASS
    if operand.kind == INFINITE:
        return MINUS_INFINITE_CLASS if minus else PLUS_INFINITE_CLASS
    small = SMALL_CLASS if operand.kind == SMALL else 0
    return small | (FINITE_BELOW_ZERO_CLASS if minus else 0)
