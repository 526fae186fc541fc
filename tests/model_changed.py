"""The second model, of what is fixed, changed and made whole: the document's sentences over fractions."""

from fractions import Fraction

from model import CUT, DIGITS, DOUBLE, EMAX, EMPTY, SINGLE, come_in, encode, infinite, multiple_of, number
from model import small_came, two_to, value_result, zero

HALF_PI = {SINGLE: 0x3FC90FDB, DOUBLE: 0x3FF921FB54442D18}
# By bit of imm: the flag, and the token of which it's told.
FIX_FLAGS = {0: (4, 2), 1: (1, 2), 2: (4, 3), 3: (1, 3), 4: (1, 1), 5: (1, 4), 6: (1, 6), 7: (1, 5)}


def token_of(b):
    if b.kind in ("quiet", "loud", "zero"):
        return ("quiet", "loud", "zero").index(b.kind)
    if b.kind == "infinite":
        return 4 if b.sign else 5
    return 3 if b.value == 1 else 6 if b.value < 0 else 7


def fix_answers(f, a, b):
    greatest = encode(f, 0, (2 - two_to(1 - DIGITS[f])) * two_to(EMAX[f]))
    return [
        a, b.bits, b.quieted if b.no_number else EMPTY[f], EMPTY[f],
        infinite(f, 1), infinite(f, 0), infinite(f, b.sign), zero(f, 1),
        zero(f, 0), number(f, -1), number(f, 1), number(f, Fraction(1, 2)),
        number(f, 90), HALF_PI[f], greatest, zero(f, 1) + greatest,
    ]


def fix(f, imm, how, table, a, b):
    b = come_in(f, how, b)
    token = token_of(b)
    flags = 0
    for bit, (flag, told_of) in FIX_FLAGS.items():
        if imm & 1 << bit and token == told_of:
            flags |= flag
    return [0, fix_answers(f, a, b)[table // 16 ** token % 16], flags]


def change(f, g, how, a):
    a = come_in(f, how, a)
    if a.no_number:
        digits = format(a.rest % (1 << (DIGITS[f] - 1)), "b").zfill(DIGITS[f] - 1)
        kept = "1" + digits[1:DIGITS[g] - 1].ljust(DIGITS[g] - 2, "0")
        return [0, infinite(g, a.sign) + int(kept, 2), 1 if a.kind == "loud" else 0]
    if a.kind == "infinite":
        return [0, infinite(g, a.sign), 0]
    bits, flags = value_result(g, how, a.value, a.sign)
    return [0, bits, flags | small_came([a])]


# By kind: its width, whether it has a sign, what is told of all beyond.
KINDS = {0: (32, True, 1 << 31), 1: (32, False, (1 << 32) - 1), 2: (64, True, 1 << 63), 3: (64, False, (1 << 64) - 1)}


def ends(kind):
    width, signed, told = KINDS[kind]
    return (-(1 << (width - 1)), (1 << (width - 1)) - 1) if signed else (0, (1 << width) - 1)


def to_whole(f, kind, cut, how, a):
    a = come_in(f, how, a)
    width, signed, beyond = KINDS[kind]
    if not a.finite:
        return [0, beyond, 1]
    size = multiple_of(a.size, Fraction(1), how % 4 if cut == 0 else CUT, a.sign)
    n = -size if a.sign else size
    least, greatest = ends(kind)
    if not least <= n <= greatest:
        return [0, beyond, 1]
    return [0, n % (1 << width), 0 if n == a.value else 32]


def of_whole(kind, g, how, v):
    width, signed, beyond = KINDS[kind]
    n = v % (1 << width)
    if n > ends(kind)[1]:
        n -= 1 << width
    return [0, *value_result(g, how, Fraction(n), 0)]
