"""The second model, of fused, of what is compared and classed: the document's sentences over fractions."""

from model import answered, come_in, infinite, minus_if_down, place, small_came, value_result

# The document's row of compare, as it stands there.
SORT_WORDS = """0 equal; 1 less; 2 less, equal; 3 not; 4 less, greater, not; 5 equal, greater, not; 6 greater, not;
7 less, equal, greater; 8 equal, not; 9 less, not; 10 less, equal, not; 11 none; 12 less, greater; 13 equal, greater;
14 greater; 15 less, equal, greater, not"""
SORTS = {int(row.split()[0]): set(row.replace(",", " ").split()[1:]) - {"none"} for row in SORT_WORDS.split(";")}


def fused(f, sort, how, a, b, c):
    a, b, c = (come_in(f, how, bits) for bits in (a, b, c))
    return answered(f, [a, b, c], lambda: fused_numbers(f, sort, how, a, b, c))


def fused_numbers(f, sort, how, a, b, c):
    product_sign = (a.sign + b.sign + (sort in (2, 3))) % 2
    added_sign = (c.sign + (sort in (1, 3))) % 2
    if {a.kind, b.kind} == {"zero", "infinite"}:
        return "invalid"
    product_infinite = "infinite" in (a.kind, b.kind)
    if product_infinite and c.kind == "infinite" and product_sign != added_sign:
        return "invalid"
    if product_infinite:
        return infinite(f, product_sign), 0
    if c.kind == "infinite":
        return infinite(f, added_sign), 0
    x = (-1) ** product_sign * a.size * b.size + (-1) ** added_sign * c.size
    zeros = "zero" in (a.kind, b.kind) and c.kind == "zero"
    return value_result(f, how, x, product_sign if zeros and product_sign == added_sign else minus_if_down(how % 4))


def stand(a, b):
    if a.no_number or b.no_number:
        return "not"
    return "less" if place(a) < place(b) else "greater" if place(a) > place(b) else "equal"


def asked_flags(strict, a, b):
    if "loud" in (a.kind, b.kind):
        return 1
    if a.no_number or b.no_number:
        return 1 if strict else 0
    return small_came([a, b])


def is_strict(sort):
    listed = sort % 16 in (1, 2, 5, 6, 9, 10, 13, 14)
    return listed if sort < 16 else not listed


def compare(f, sort, how, a, b):
    a, b = come_in(f, how, a), come_in(f, how, b)
    return [0, 1 if stand(a, b) in SORTS[sort % 16] else 0, asked_flags(is_strict(sort), a, b)]


def order(f, strict, how, a, b):
    a, b = come_in(f, how, a), come_in(f, how, b)
    return [0, ("less", "equal", "greater", "not").index(stand(a, b)), asked_flags(strict != 0, a, b)]


def class_of(f, imm, how, a):
    a = come_in(f, how, a)
    told = [
        a.kind == "quiet",
        a.kind == "zero" and a.sign == 0,
        a.kind == "zero" and a.sign == 1,
        a.kind == "infinite" and a.sign == 0,
        a.kind == "infinite" and a.sign == 1,
        a.kind == "small",
        a.finite and a.value < 0,
        a.kind == "loud",
    ]
    return [0, 1 if any(told[bit] for bit in range(8) if imm >> bit & 1) else 0]
