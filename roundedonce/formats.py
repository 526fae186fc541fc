"""Half, single and double: their measures, and bits taken apart and put together.

A format is told by f: 0 half, 1 single, 2 double.
"""

HALF = 0
WIDTHS = (16, 32, 64)
DIGITS = (11, 24, 53)
GREATEST_EXPONENTS = (15, 127, 1023)

ZERO = "zero"
SMALL = "small"
NORMAL = "normal"
INFINITE = "infinite"
QUIET = "quiet"
LOUD = "loud"


def least_exponent(f):
    """The emin of the format."""
    return 1 - GREATEST_EXPONENTS[f]


def least_power(f):
    """The power of two whose whole multiples the small ones are."""
    return least_exponent(f) - DIGITS[f] + 1


def sign_bit(f):
    return 1 << (WIDTHS[f] - 1)


def quiet_bit(f):
    return 1 << (DIGITS[f] - 2)


def zero_bits(f, sign):
    return sign << (WIDTHS[f] - 1)


def infinite_bits(f, sign):
    exponent_bits = 2 * GREATEST_EXPONENTS[f] + 1
    return zero_bits(f, sign) | (exponent_bits << (DIGITS[f] - 1))


def greatest_bits(f, sign):
    # The bits of the finite ones end just where those of the infinite one stand.
    return infinite_bits(f, sign) - 1


def empty_bits(f):
    return infinite_bits(f, 1) | quiet_bit(f)


def packed_bits(f, sign, whole, power):
    """The bits of whole 2^power, which is to be a number of the format.

    A whole of p digits brings its highest digit along: it adds 1 to the exponent bits,
    as it should for normal ones, and a whole of 2^p adds 2. One of fewer digits is small.
    """
    steps = power - least_power(f)
    return zero_bits(f, sign) + (steps << (DIGITS[f] - 1)) + whole


def kind_of(f, exponent_bits, fraction):
    if exponent_bits == 0:
        return ZERO if fraction == 0 else SMALL
    if exponent_bits <= 2 * GREATEST_EXPONENTS[f]:
        return NORMAL
    if fraction == 0:
        return INFINITE
    return QUIET if fraction & quiet_bit(f) else LOUD


class Operand:
    """A float that came in. The value of a finite one is whole 2^power, with its sign."""

    def __init__(self, f, bits):
        self.bits = bits
        self.sign = bits >> (WIDTHS[f] - 1)
        self.rank = bits - zero_bits(f, self.sign)
        exponent_bits = self.rank >> (DIGITS[f] - 1)
        self.whole = self.rank - (exponent_bits << (DIGITS[f] - 1))
        self.kind = kind_of(f, exponent_bits, self.whole)
        self.power = least_power(f)
        if exponent_bits > 0:
            self.whole += 1 << (DIGITS[f] - 1)
            self.power += exponent_bits - 1


def taken_in(f, how, bits):
    """The operand that bits stand for, a zero where it counts as one."""
    operand = Operand(f, bits)
    if operand.kind == SMALL and how & 4 and f != HALF:
        return Operand(f, zero_bits(f, operand.sign))
    return operand


def turned(f, operand):
    return Operand(f, operand.bits ^ sign_bit(f))


def no_number(operand):
    return operand.kind == QUIET or operand.kind == LOUD


def below_zero(operand):
    """Whether a number is below 0; minus zero is not."""
    return operand.sign == 1 and operand.kind != ZERO


def signed_whole(operand):
    return -operand.whole if operand.sign == 1 else operand.whole


def top_exponent(operand):
    """The e with 2^e at most the size of a finite one that isn't zero, and that below 2^(e + 1)."""
    return operand.whole.bit_length() - 1 + operand.power
