"""The calls. Each answers -1 alone where it is refused, else 0 and behind it what is told."""

from roundedonce.arithmetic import add, div, mul, scale, sqrt, sub
from roundedonce.changing import changed
from roundedonce.choosing import greatest, in_range, least
from roundedonce.classing import class_bits
from roundedonce.comparing import is_strict, sort_holds, standing, standing_flags
from roundedonce.fixing import fixed
from roundedonce.formats import HALF, LOUD, SMALL, WIDTHS
from roundedonce.formats import no_number, quiet_bit, taken_in
from roundedonce.fusing import multiply_add
from roundedonce.parting import exponent_of, grid_reduce, grid_round, part_of
from roundedonce.rounding import BY_ZERO, CAME_SMALL, INVALID
from roundedonce.wholes import KIND_WIDTHS
from roundedonce.wholes import float_of, picked_cut, whole_of

SQRT = 0
ROUND = 1
EXPONENT = 2
PART = 3

ADD = 0
SUB = 1
MUL = 2
DIV = 3
LEAST = 4
GREATEST = 5
RANGE = 7

# By op: the greatest imm it takes.
ONE_IMMS = (0, 255, 0, 15, 255)
TWO_IMMS = (0, 0, 0, 0, 0, 0, 0, 15)

FUSED_SORTS = 4
COMPARE_SORTS = 32
GREATEST_CLASS_IMM = 255
GREATEST_FIX_IMM = 255


def one(f, op, how, imm, a):
    if is_refused(f, how, [a]) or is_wrong_op(op, imm, ONE_IMMS):
        return [-1]
    operand = taken_in(f, how, a)
    found = no_number_answer(f, [operand])
    if found is None:
        found = with_small(one_number(f, op, how, imm, operand), [operand])
    return [0, found[0], found[1]]


def two(f, op, how, imm, a, b):
    if is_refused(f, how, [a, b]) or is_wrong_op(op, imm, TWO_IMMS):
        return [-1]
    if op == RANGE and f == HALF:
        return [-1]
    first = taken_in(f, how, a)
    second = taken_in(f, how, b)
    found = chosen_answer(f, op, imm, first, second)
    if found is None:
        found = no_number_answer(f, [first, second])
    if found is None:
        found = with_small(two_numbers(f, op, how, first, second), [first, second])
    return [0, found[0], found[1]]


def fused(f, sort, how, a, b, c):
    if is_refused(f, how, [a, b, c]) or sort >= FUSED_SORTS:
        return [-1]
    operands = [taken_in(f, how, bits) for bits in [a, b, c]]
    found = no_number_answer(f, operands)
    if found is None:
        found = with_small(multiply_add(f, sort, how, operands[0], operands[1], operands[2]), operands)
    return [0, found[0], found[1]]


def compare(f, sort, how, a, b):
    if is_refused(f, how, [a, b]) or sort >= COMPARE_SORTS:
        return [-1]
    first = taken_in(f, how, a)
    second = taken_in(f, how, b)
    return [0, 1 if sort_holds(sort, first, second) else 0, standing_flags(is_strict(sort), first, second)]


def order(f, strict, how, a, b):
    if is_refused(f, how, [a, b]):
        return [-1]
    first = taken_in(f, how, a)
    second = taken_in(f, how, b)
    return [0, standing(first, second), standing_flags(strict != 0, first, second)]


def class_of(f, imm, how, a):
    if is_refused(f, how, [a]) or imm > GREATEST_CLASS_IMM:
        return [-1]
    return [0, 1 if imm & class_bits(taken_in(f, how, a)) else 0]


def fix(f, imm, how, table, a, b):
    if is_refused(f, how, [a, b]) or f == HALF or imm > GREATEST_FIX_IMM:
        return [-1]
    found = fixed(f, imm, table, a, taken_in(f, how, b))
    return [0, found[0], found[1]]


def change(f, g, how, a):
    if is_refused(f, how, [a]) or g >= len(WIDTHS) or f == g:
        return [-1]
    operand = taken_in(f, how, a)
    found = with_small(changed(f, g, how, operand), [operand])
    return [0, found[0], found[1]]


def to_whole(f, kind, cut, how, a):
    if is_refused(f, how, [a]) or kind >= len(KIND_WIDTHS):
        return [-1]
    found = whole_of(kind, picked_cut(cut, how), taken_in(f, how, a))
    return [0, found[0], found[1]]


def of_whole(kind, g, how, v):
    # A v is never too wide: of the kinds of 32 bits those above are left out.
    if is_refused(g, how, []) or kind >= len(KIND_WIDTHS):
        return [-1]
    found = float_of(kind, g, how, v)
    return [0, found[0], found[1]]


def is_refused(f, how, numbers):
    """Whether there is no such format or how, or one of the numbers has bits above the format's."""
    return f >= len(WIDTHS) or how > 15 or any([bits >> WIDTHS[f] != 0 for bits in numbers])


def is_wrong_op(op, imm, greatest_imms):
    return op >= len(greatest_imms) or imm > greatest_imms[op]


def one_number(f, op, how, imm, a):
    if op == SQRT:
        return sqrt(f, how, a)
    if op == ROUND:
        return grid_round(f, how, imm, a)
    if op == EXPONENT:
        return exponent_of(f, how, a)
    if op == PART:
        return part_of(f, how, imm, a)
    return grid_reduce(f, how, imm, a)


def two_numbers(f, op, how, a, b):
    if op == ADD:
        return add(f, how, a, b)
    if op == SUB:
        return sub(f, how, a, b)
    if op == MUL:
        return mul(f, how, a, b)
    if op == DIV:
        return div(f, how, a, b)
    return scale(f, how, a, b)


def chosen_answer(f, op, imm, a, b):
    """The answer of the ops with their own words about no numbers; None of the others."""
    if op == LEAST:
        return least(a, b)
    if op == GREATEST:
        return greatest(a, b)
    if op == RANGE:
        return in_range(f, imm, a, b)
    return None


def no_number_answer(f, operands):
    """The first no number made quiet, and its flags; None if there is none."""
    flags = INVALID if any([operand.kind == LOUD for operand in operands]) else 0
    for operand in operands:
        if no_number(operand):
            return (operand.bits | quiet_bit(f), flags)
    return None


def with_small(found, operands):
    """The answer, told too that a small one came in, unless invalid or divided by zero stand alone."""
    if found[1] & (INVALID | BY_ZERO) == 0 and any([operand.kind == SMALL for operand in operands]):
        return (found[0], found[1] | CAME_SMALL)
    return found
