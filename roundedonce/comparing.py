"""How two operands stand to one another, and the flags of asking."""

from roundedonce.formats import LOUD, SMALL
from roundedonce.formats import no_number
from roundedonce.rounding import CAME_SMALL, INVALID

# How two stand, as order tells it.
LESS = 0
EQUAL = 1
GREATER = 2
NOT_COMPARED = 3

# By sort, of the first sixteen: the ways to stand (0 less, 1 equal, 2 greater, 3 not) of which it's true.
SORT_STANDINGS = (
    (1,),
    (0,),
    (0, 1),
    (3,),
    (0, 2, 3),
    (1, 2, 3),
    (2, 3),
    (0, 1, 2),
    (1, 3),
    (0, 3),
    (0, 1, 3),
    (),
    (0, 2),
    (1, 2),
    (2,),
    (0, 1, 2, 3),
)
# Of the first sixteen sorts; of the second sixteen it's the others.
STRICT_SORTS = (1, 2, 5, 6, 9, 10, 13, 14)


def value_place(operand):
    """A whole number that stands to those of other numbers as the values stand to one another."""
    return -operand.rank if operand.sign == 1 else operand.rank


def standing(a, b):
    if no_number(a) or no_number(b):
        return NOT_COMPARED
    if value_place(a) < value_place(b):
        return LESS
    return EQUAL if value_place(a) == value_place(b) else GREATER


def sort_holds(sort, a, b):
    return standing(a, b) in SORT_STANDINGS[sort % 16]


def is_strict(sort):
    return (sort % 16 in STRICT_SORTS) == (sort < 16)


def small_flags(a, b):
    return CAME_SMALL if a.kind == SMALL or b.kind == SMALL else 0


def standing_flags(strict, a, b):
    if a.kind == LOUD or b.kind == LOUD:
        return INVALID
    if no_number(a) or no_number(b):
        return INVALID if strict else 0
    return small_flags(a, b)
