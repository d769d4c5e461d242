"""The calls: each is handed lists of whole numbers and answers one list of its own.

The answer is 0 and behind it what is told, or a refusal alone.
"""

from rootrows.fields import count_places, field_refusal
from rootrows.reckoning import added, are_rows, inverse_of, is_zero, multiplied, negated, one_form, raised, whole_row

GREATEST_POWER = 20
MOST_ROWS = 8


def open_of(field):
    """The degree of the field and how many places it has."""
    refusal = field_refusal(field)
    if refusal != 0:
        return [refusal]
    return [0, len(field), count_places(field)]


def row(field, a):
    """The one form of a."""
    refusal = refusal_of(field, [a])
    if refusal != 0:
        return [refusal]
    return [0] + one_form(a)


def plus(field, a, b):
    """The one form of a and b together."""
    refusal = refusal_of(field, [a, b])
    if refusal != 0:
        return [refusal]
    return [0] + one_form(added(a, b))


def minus(field, a, b):
    """The one form of a less b."""
    refusal = refusal_of(field, [a, b])
    if refusal != 0:
        return [refusal]
    return [0] + one_form(added(a, negated(b)))


def times(field, a, b):
    """The one form of the product of a and b."""
    refusal = refusal_of(field, [a, b])
    if refusal != 0:
        return [refusal]
    return [0] + one_form(multiplied(field, a, b))


def over(field, a, b):
    """The one form of a divided by b."""
    refusal = refusal_of(field, [a, b])
    if refusal != 0:
        return [refusal]
    if is_zero(b):
        return [-5]
    return [0] + one_form(multiplied(field, a, inverse_of(field, b)))


def power(k, field, a):
    """The one form of a to the power k, which may be below 0."""
    refusal = refusal_of(field, [a])
    if refusal != 0:
        return [refusal]
    if abs(k) > GREATEST_POWER:
        return [-3]
    if k >= 0:
        return [0] + one_form(raised(field, a, k))
    if is_zero(a):
        return [-5]
    return [0] + one_form(raised(field, one_form(inverse_of(field, a)), -k))


def value(field, rows, x):
    """The one form of p_0 + p_1 X + p_2 X^2 + ... at X = x, the rows being p_0, p_1, ..., one behind another."""
    refusal = field_refusal(field)
    if refusal != 0:
        return [refusal]
    degree = len(field)
    if len(rows) > MOST_ROWS * (degree + 1):
        return [-3]
    factors = rows_apart(rows, degree)
    if not are_rows(factors + [x], degree):
        return [-9]
    total = whole_row(0, degree)
    for factor in reversed(factors):
        total = added(multiplied(field, total, x), factor)
    return [0] + one_form(total)


def refusal_of(field, operands):
    """The first refusal that the field or a row calls for, 0 if there is none."""
    refusal = field_refusal(field)
    if refusal != 0:
        return refusal
    if are_rows(operands, len(field)):
        return 0
    return -9


def rows_apart(numbers, degree):
    """The numbers cut into rows; what is left over at the end is shorter, so it is none."""
    width = degree + 1
    return [numbers[k:k + width] for k in range(0, len(numbers), width)]
