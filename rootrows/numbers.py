"""The calls: each is handed lists of whole numbers and answers one list of its own.

The answer is 0 and behind it what is told, or a refusal alone.
"""

from rootrows.fields import count_places, field_refusal, without_divisor


def open_of(field):
    """The degree of the field and how many places it has."""
    refusal = field_refusal(field)
    if refusal != 0:
        return [refusal]
    return [0, len(field), count_places(field)]


def row(field, a):
    """The one form of a."""
    refusal = refusal_of(field, [a])
    if refusal != 0:
        return [refusal]
    return [0] + one_form(a)


def plus(field, a, b):
    """The one form of a and b together."""
    refusal = refusal_of(field, [a, b])
    if refusal != 0:
        return [refusal]
    return [0] + added(a, b)


def minus(field, a, b):
    """The one form of a less b."""
    refusal = refusal_of(field, [a, b])
    if refusal != 0:
        return [refusal]
    return [0] + added(a, negated(b))


def refusal_of(field, operands):
    """The first refusal that the field or a row calls for, 0 if there is none."""
    refusal = field_refusal(field)
    if refusal != 0:
        return refusal
    if all([is_row(operand, len(field)) for operand in operands]):
        return 0
    return -9


def is_row(operand, degree):
    """Whether it is the row of a number of a field of that degree."""
    return len(operand) == degree + 1 and operand[-1] > 0


def one_form(a):
    """The row of the same number with the least denominator.

    The denominator is above 0, so the numbers have a divisor even if the number is 0.
    """
    return without_divisor(a)


def added(a, b):
    numerators = [m * b[-1] + n * a[-1] for m, n in zip(a[:-1], b[:-1])]
    return one_form(numerators + [a[-1] * b[-1]])


def negated(a):
    return [-number for number in a[:-1]] + [a[-1]]
