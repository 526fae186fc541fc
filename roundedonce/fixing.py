"""fix: what a table says at the token of b. Of single and double; a is bits, as it isn't looked into."""

from roundedonce.formats import INFINITE, LOUD, QUIET, ZERO
from roundedonce.formats import empty_bits, greatest_bits, infinite_bits, no_number, quiet_bit, sign_bit, zero_bits

# By f.
ONE_BITS = {1: 0x3F800000, 2: 0x3FF0000000000000}
ONE_HALF_BITS = {1: 0x3F000000, 2: 0x3FE0000000000000}
NINETY_BITS = {1: 0x42B40000, 2: 0x4056800000000000}
HALF_PI_BITS = {1: 0x3FC90FDB, 2: 0x3FF921FB54442D18}

QUIET_TOKEN = 0
LOUD_TOKEN = 1
ZERO_TOKEN = 2
ONE_TOKEN = 3
MINUS_INFINITE_TOKEN = 4
PLUS_INFINITE_TOKEN = 5
BELOW_ZERO_TOKEN = 6
ABOVE_ZERO_TOKEN = 7

# By bit of imm: the token it is about, and the flag it asks for there.
IMM_FLAGS = ((2, 4), (2, 1), (3, 4), (3, 1), (1, 1), (4, 1), (6, 1), (5, 1))


def fixed(f, imm, table, a, b):
    token = token_of(f, b)
    return (said_bits(f, table >> (4 * token) & 15, a, b), token_flags(imm, token))


def token_of(f, b):
    if b.kind == QUIET:
        return QUIET_TOKEN
    if b.kind == LOUD:
        return LOUD_TOKEN
    if b.kind == ZERO:
        return ZERO_TOKEN
    if b.bits == ONE_BITS[f]:
        return ONE_TOKEN
    if b.kind == INFINITE:
        return MINUS_INFINITE_TOKEN if b.sign == 1 else PLUS_INFINITE_TOKEN
    return BELOW_ZERO_TOKEN if b.sign == 1 else ABOVE_ZERO_TOKEN


def said_bits(f, said, a, b):
    if said == 0:
        return a
    if said == 1:
        return b.bits
    if said == 2 and no_number(b):
        return b.bits | quiet_bit(f)
    if said <= 3:
        return empty_bits(f)
    if said == 6:
        return infinite_bits(f, b.sign)
    return constant_bits(f, said)


def constant_bits(f, said):
    """What is said from 4 on, but 6, has nothing of a and b."""
    if said <= 5:
        return infinite_bits(f, 1 if said == 4 else 0)
    if said <= 8:
        return zero_bits(f, 1 if said == 7 else 0)
    if said == 9:
        return sign_bit(f) | ONE_BITS[f]
    if said == 10:
        return ONE_BITS[f]
    if said == 11:
        return ONE_HALF_BITS[f]
    if said == 12:
        return NINETY_BITS[f]
    if said == 13:
        return HALF_PI_BITS[f]
    return greatest_bits(f, 1 if said == 15 else 0)


def token_flags(imm, token):
    flags = 0
    for bit, about in enumerate(IMM_FLAGS):
        if imm >> bit & 1 and about[0] == token:
            flags |= about[1]
    return flags
