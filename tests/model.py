"""What the document says, written a second time over fractions, and numbers to try it on.

It shares no code with the package: floats are fractions here, a root is kept as its square,
and each sentence of the document is put down as it stands, without regard to speed.
"""

from fractions import Fraction
from math import floor, isqrt

HALF, SINGLE, DOUBLE = 0, 1, 2
FORMATS = (HALF, SINGLE, DOUBLE)
NEAR, DOWN, UP, CUT = 0, 1, 2, 3
DIGITS = {HALF: 11, SINGLE: 24, DOUBLE: 53}
EMIN = {HALF: -14, SINGLE: -126, DOUBLE: -1022}
EMAX = {HALF: 15, SINGLE: 127, DOUBLE: 1023}
WIDTH = {HALF: 16, SINGLE: 32, DOUBLE: 64}
EMPTY = {HALF: 0xFE00, SINGLE: 0xFFC00000, DOUBLE: 0xFFF8000000000000}
ONE_OPS = {"sqrt": 0, "round": 1, "exponent": 2, "part": 3, "reduce": 4}
TWO_OPS = {"add": 0, "sub": 1, "mul": 2, "div": 3, "least": 4, "greatest": 5, "scale": 6, "range": 7}


def two_to(n):
    return Fraction(1 << n) if n >= 0 else Fraction(1, 1 << -n)


class Root:
    """The square root of a fraction, exactly."""

    def __init__(self, square):
        self.square = square


def floor_by(x, unit):
    if isinstance(x, Root):
        return isqrt(floor(x.square / (unit * unit)))
    return floor(x / unit)


def compare(x, y):
    left, right = (x.square, y * y) if isinstance(x, Root) else (x, y)
    return (left > right) - (left < right)


def exponent_of(x):
    """The e with 2^e <= x < 2^(e + 1)."""
    if isinstance(x, Root):
        return exponent_of(x.square) // 2
    e = x.numerator.bit_length() - x.denominator.bit_length()
    return e if two_to(e) <= x else e - 1


def multiple_of(x, unit, rounding, sign):
    """The size x, of a value of this sign, rounded to a whole multiple of unit: how many."""
    n = floor_by(x, unit)
    if compare(x, n * unit) == 0:
        return n
    if rounding == NEAR:
        side = compare(x, (n + Fraction(1, 2)) * unit)
        return n if side < 0 or (side == 0 and n % 2 == 0) else n + 1
    upper_size = {DOWN: sign == 1, UP: sign == 0, CUT: False}[rounding]
    return n + 1 if upper_size else n


class Float:
    def __init__(self, f, bits):
        self.bits = bits
        self.f = f
        p = DIGITS[f]
        self.sign = bits >> (WIDTH[f] - 1)
        self.rest = bits % (1 << (WIDTH[f] - 1))
        exponent, fraction = divmod(self.rest, 1 << (p - 1))
        all_ones = (1 << (WIDTH[f] - p)) - 1
        self.size = None
        if exponent == all_ones:
            highest = fraction >> (p - 2)
            self.kind = "infinite" if fraction == 0 else "quiet" if highest == 1 else "loud"
            return
        self.kind = "normal" if exponent else "small" if fraction else "zero"
        m = fraction + (1 << (p - 1) if exponent else 0)
        self.size = m * two_to(max(exponent, 1) + EMIN[f] - p)

    @property
    def value(self):
        return -self.size if self.sign else self.size

    @property
    def finite(self):
        return self.size is not None

    @property
    def no_number(self):
        return self.kind in ("quiet", "loud")

    @property
    def quieted(self):
        return self.bits | 1 << (DIGITS[self.f] - 2)


def zero(f, sign):
    return sign << (WIDTH[f] - 1)


def infinite(f, sign):
    return zero(f, sign) + ((1 << (WIDTH[f] - DIGITS[f])) - 1 << (DIGITS[f] - 1))


def encode(f, sign, size):
    """The bits of a size that is a number of the format."""
    if size == 0:
        return zero(f, sign)
    p = DIGITS[f]
    e = exponent_of(size)
    if e < EMIN[f]:
        m, exponent = size / two_to(EMIN[f] - p + 1), 0
    else:
        m, exponent = size / two_to(e - p + 1) - (1 << (p - 1)), e - EMIN[f] + 1
    if m.denominator != 1 or e > EMAX[f]:
        raise ValueError("not a number of the format")
    return zero(f, sign) + (exponent << (p - 1)) + m.numerator


def flushes(f, how):
    return f != HALF and bool(how & 8)


def result(f, how, sign, x):
    """(bits, flags) of the exact size x, not 0."""
    p, rounding = DIGITS[f], how % 4
    unit = two_to(exponent_of(x) - p + 1)
    y = multiple_of(x, unit, rounding, sign) * unit
    if y >= two_to(EMAX[f] + 1):
        if rounding == CUT or (rounding == DOWN and sign == 0) or (rounding == UP and sign == 1):
            return encode(f, sign, ((1 << p) - 1) * two_to(EMAX[f] - p + 1)), 8 + 32
        return infinite(f, sign), 8 + 32
    if y < two_to(EMIN[f]):
        if flushes(f, how):
            return zero(f, sign), 16 + 32
        unit = two_to(EMIN[f] - p + 1)
        size = multiple_of(x, unit, rounding, sign) * unit
        return encode(f, sign, size), 0 if compare(x, size) == 0 else 16 + 32
    return encode(f, sign, y), 0 if compare(x, y) == 0 else 32


def value_result(f, how, x, zero_sign):
    if x == 0:
        return zero(f, zero_sign), 0
    return result(f, how, 1 if x < 0 else 0, abs(x))


def come_in(f, how, bits):
    a = Float(f, bits)
    if a.kind == "small" and how & 4 and f != HALF:
        return Float(f, zero(f, a.sign))
    return a


def minus_if_down(rounding):
    return 1 if rounding == DOWN else 0


def is_infinite(a, sign):
    return a.kind == "infinite" and a.sign == sign


# Each operation below answers (bits, flags), "invalid", or ("by zero", sign).

def add_values(f, how, a, b, b_sign):
    if a.kind == "infinite" and b.kind == "infinite" and a.sign != b_sign:
        return "invalid"
    if a.kind == "infinite":
        return infinite(f, a.sign), 0
    if b.kind == "infinite":
        return infinite(f, b_sign), 0
    both = a.kind == "zero" and b.kind == "zero" and a.sign == b_sign
    sign = a.sign if both else minus_if_down(how % 4)
    return value_result(f, how, a.value + (-b.size if b_sign else b.size), sign)


def add(f, how, imm, a, b):
    return add_values(f, how, a, b, b.sign)


def sub(f, how, imm, a, b):
    return add_values(f, how, a, b, 1 - b.sign)


def mul(f, how, imm, a, b):
    sign = (a.sign + b.sign) % 2
    if {a.kind, b.kind} == {"zero", "infinite"}:
        return "invalid"
    if "infinite" in (a.kind, b.kind):
        return infinite(f, sign), 0
    return value_result(f, how, a.value * b.value, sign)


def div(f, how, imm, a, b):
    sign = (a.sign + b.sign) % 2
    if (a.kind, b.kind) in (("zero", "zero"), ("infinite", "infinite")):
        return "invalid"
    if a.finite and b.kind == "zero":
        return "by zero", sign
    if a.kind == "infinite":
        return infinite(f, sign), 0
    if b.kind == "infinite":
        return zero(f, sign), 0
    return value_result(f, how, a.value / b.value, sign)


def sqrt(f, how, imm, a):
    if a.kind == "zero" or is_infinite(a, 0):
        return a.bits, 0
    if a.sign == 1:
        return "invalid"
    return result(f, how, 0, Root(a.size))


def scale(f, how, imm, a, b):
    if (a.kind == "zero" and is_infinite(b, 0)) or (a.kind == "infinite" and is_infinite(b, 1)):
        return "invalid"
    if is_infinite(b, 0):
        return infinite(f, a.sign), 0
    if is_infinite(b, 1):
        return zero(f, a.sign), 0
    if a.kind in ("zero", "infinite"):
        return a.bits, 0
    n = max(min(floor(b.value), 6000), -6000)
    return result(f, how, a.sign, a.size * two_to(n))


def grid(how, imm, a):
    """The size of a finite a rounded as round has it, and the rounding that imm picks."""
    unit = two_to(-(imm // 16))
    rounding = how % 4 if imm & 4 else imm % 4
    return multiple_of(a.size, unit, rounding, a.sign) * unit, rounding


def round_(f, how, imm, a):
    if a.kind in ("zero", "infinite"):
        return a.bits, 0
    size = grid(how, imm, a)[0]
    return encode(f, a.sign, size), 32 if size != a.size and not imm & 8 else 0


def reduce_(f, how, imm, a):
    if a.kind == "infinite":
        return zero(f, 0), 0
    size, rounding = grid(how, imm, a)
    rest = -(a.size - size) if a.sign else a.size - size
    bits, flags = value_result(f, how, rest, minus_if_down(rounding))
    return bits, flags | (32 if rest != 0 and not imm & 8 else 0)


def exponent(f, how, imm, a):
    if not a.finite or a.kind == "zero":
        return infinite(f, 0 if a.kind == "infinite" else 1), 0
    e = exponent_of(a.size)
    return encode(f, 1 if e < 0 else 0, Fraction(abs(e))), 0


def part(f, how, imm, a):
    way, choice = imm % 4, imm // 4
    if choice >= 2 and a.sign == 1 and a.kind != "zero":
        return "invalid"
    sign = 0 if choice == 1 else a.sign
    if a.kind in ("zero", "infinite"):
        return encode(f, sign, Fraction(1)), 0
    e = exponent_of(a.size)
    m = a.size * two_to(-e)
    halved = {0: False, 1: e % 2 == 1, 2: True, 3: m >= Fraction(3, 2)}[way]
    return encode(f, sign, m / 2 if halved else m), 0


ONE = {0: sqrt, 1: round_, 2: exponent, 3: part, 4: reduce_}
TWO = {0: add, 1: sub, 2: mul, 3: div, 6: scale}


def place(a):
    """Where a number stands among the others; no two of these but zeros are equal by chance."""
    if a.kind == "infinite":
        return (-1 if a.sign else 1) * two_to(3000)
    return a.value


def small_came(operands):
    return 2 if any(a.kind == "small" for a in operands) else 0


def least_or_greatest(op, a, b):
    if a.no_number or b.no_number:
        return b.bits, 1
    wins = place(a) < place(b) if op == TWO_OPS["least"] else place(a) > place(b)
    return (a if wins else b).bits, small_came([a, b])


def range_(f, imm, a, b):
    loud = [x for x in (a, b) if x.kind == "loud"]
    if loud:
        return loud[0].quieted, 1
    if a.no_number and b.no_number:
        return a.bits, 0
    if a.no_number or b.no_number:
        chosen, flags = (b if a.no_number else a), 0
    else:
        key = {0: 0, 1: 0, 2: 1, 3: 1}[imm % 4]
        keys = [lambda x: (place(x), -x.sign), lambda x: (abs(place(x)), place(x), -x.sign)]
        chosen = (max if imm % 2 else min)((a, b), key=keys[key])
        flags = small_came([a, b])
    sign = {0: a.sign, 1: chosen.sign, 2: 0, 3: 1}[imm // 4]
    return zero(f, sign) + chosen.rest, flags


def answered(f, operands, work):
    for a in operands:
        if a.no_number:
            return [0, a.quieted, 1 if any(x.kind == "loud" for x in operands) else 0]
    found = work()
    if found == "invalid":
        return [0, EMPTY[f], 1]
    if found[0] == "by zero":
        return [0, infinite(f, found[1]), 4]
    return [0, found[0], found[1] | small_came(operands)]


def one(f, op, how, imm, a):
    a = come_in(f, how, a)
    return answered(f, [a], lambda: ONE[op](f, how, imm, a))


def two(f, op, how, imm, a, b):
    a, b = come_in(f, how, a), come_in(f, how, b)
    if op in (TWO_OPS["least"], TWO_OPS["greatest"]):
        return [0, *least_or_greatest(op, a, b)]
    if op == TWO_OPS["range"]:
        return [0, *range_(f, imm, a, b)]
    return answered(f, [a, b], lambda: TWO[op](f, how, imm, a, b))


# Numbers to try.

def number(f, x):
    """The bits of a number of the format, told by its value."""
    x = Fraction(x)
    return encode(f, 1 if x < 0 else 0, abs(x))


def both_signs(f, sizes):
    return [zero(f, sign) + bits for bits in sizes for sign in (0, 1)]


def edges(f):
    """Each kind at its ends, and some ordinary ones: both signs of each."""
    p = DIGITS[f]
    small_end = 1 << (p - 1)
    top = infinite(f, 0)
    one_bits = number(f, 1)
    return both_signs(f, [
        0, 1, 2, 3, small_end >> 1, small_end - 1,
        small_end, small_end + 1, 2 * small_end - 1, 2 * small_end,
        one_bits - 1, one_bits, one_bits + 1, one_bits + 2, number(f, Fraction(1, 2)),
        number(f, Fraction(3, 2)), number(f, 2), number(f, Fraction(5, 2)), number(f, 3), number(f, 10),
        top - small_end, top - 2, top - 1,
        top, top + 1, top + small_end // 2 - 1, top + small_end // 2, top + small_end - 1,
    ])


class Sampler:
    """The same numbers each time it's begun with the same seed."""

    def __init__(self, seed):
        self.state = seed

    def below(self, n):
        value = 0
        for k in range(3):
            self.state = (self.state * 6364136223846793005 + 1442695040888963407) % (1 << 64)
            value = (value << 32) | self.state >> 32
        return value % n

    def pick(self, values):
        return values[self.below(len(values))]

    def fraction_bits(self, f):
        full = 1 << (DIGITS[f] - 1)
        return self.pick([
            self.below(full), self.below(8), full - 1 - self.below(8), self.below(8) * full // 8,
            full // 2 - 2 + self.below(4), self.below(full) & self.below(full) & self.below(full),
        ])

    def float_bits(self, f):
        """All exponents, but most often those near 1, near the ends and about the middles between."""
        bias = EMAX[f]
        exponent = self.pick([
            self.below(2 * bias + 2), bias - 20 + self.below(36) if f else self.below(32), self.below(3),
            2 * bias - self.below(3), bias // 2 - 3 + self.below(6), bias + bias // 2 - 3 + self.below(6),
        ])
        return zero(f, self.below(2)) + (exponent << (DIGITS[f] - 1)) + self.fraction_bits(f)
