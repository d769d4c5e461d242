"""The calls: each is handed lists of whole numbers and answers one list of its own.

The answer is 0 and behind it what is told, or a refusal alone.
"""

from rootrows.expressions import Fault, row_after, steps_of
from rootrows.fields import field_refusal
from rootrows.places import count_places, floor_at, nearest_at, parts_at, sign_at
from rootrows.reckoning import added, are_rows, inverse_of, is_zero, multiplied, negated, norm_of, one_form, raised
from rootrows.reckoning import trace_of, whole_row
from rootrows.relations import count_independent, first_relation, least_polynomial

GREATEST_POWER = 20
MOST_ROWS = 8
LONGEST_TEXT = 512
MOST_DECIMALS = 20
MOST_PARTS = 20


def open_of(field):
    """The degree of the field and how many places it has."""
    refusal = field_refusal(field)
    if refusal != 0:
        return [refusal]
    return [0, len(field), count_places(field)]


def row(field, a):
    """The one form of a."""
    refusal = refusal_of(field, [a])
    if refusal != 0:
        return [refusal]
    return [0] + one_form(a)


def plus(field, a, b):
    """The one form of a and b together."""
    refusal = refusal_of(field, [a, b])
    if refusal != 0:
        return [refusal]
    return [0] + one_form(added(a, b))


def minus(field, a, b):
    """The one form of a less b."""
    refusal = refusal_of(field, [a, b])
    if refusal != 0:
        return [refusal]
    return [0] + one_form(added(a, negated(b)))


def times(field, a, b):
    """The one form of the product of a and b."""
    refusal = refusal_of(field, [a, b])
    if refusal != 0:
        return [refusal]
    return [0] + one_form(multiplied(field, a, b))


def over(field, a, b):
    """The one form of a divided by b."""
    refusal = refusal_of(field, [a, b])
    if refusal != 0:
        return [refusal]
    if is_zero(b):
        return [-5]
    return [0] + one_form(multiplied(field, a, inverse_of(field, b)))


def power(k, field, a):
    """The one form of a to the power k, which may be below 0."""
    refusal = refusal_of(field, [a])
    if refusal != 0:
        return [refusal]
    if abs(k) > GREATEST_POWER:
        return [-3]
    if k >= 0:
        return [0] + one_form(raised(field, a, k))
    if is_zero(a):
        return [-5]
    return [0] + one_form(raised(field, one_form(inverse_of(field, a)), -k))


def value(field, rows, x):
    """The one form of p_0 + p_1 X + p_2 X^2 + ... at X = x, the rows being p_0, p_1, ..., one behind another."""
    refusal = refusal_of_rows(field, rows, [x])
    if refusal != 0:
        return [refusal]
    total = whole_row(0, len(field))
    for factor in reversed(rows_apart(rows, len(field))):
        total = added(multiplied(field, total, x), factor)
    return [0] + one_form(total)


def read(field, text):
    """The one form of what the expression comes to; the text is a list of bytes."""
    refusal = field_refusal(field)
    if refusal != 0:
        return [refusal]
    if len(text) > LONGEST_TEXT:
        return [-3]
    try:
        steps = steps_of(text)
    except Fault as fault:
        return [-6, fault.place]
    answer = row_after(field, steps)
    if answer is None:
        return [-5]
    return [0] + one_form(answer)


def sign(k, field, a):
    """-1, 0 or 1: the value of a at place k is below, at or above 0."""
    refusal = refusal_at(k, field, a)
    if refusal != 0:
        return [refusal]
    return [0, sign_at(k, field, a)]


def floor(k, field, a):
    """The greatest whole number that is not above the value of a at place k."""
    refusal = refusal_at(k, field, a)
    if refusal != 0:
        return [refusal]
    return [0, floor_at(k, field, a)]


def digits(k, n, field, a):
    """The bytes of the value of a at place k in decimal digits, rounded to n digits behind the point."""
    refusal = refusal_at(k, field, a)
    if refusal != 0:
        return [refusal]
    if n > MOST_DECIMALS:
        return [-3]
    scale = 1
    for step in range(n):
        scale = scale * 10
    scaled = [number * scale for number in a[:-1]] + [a[-1]]
    return [0] + [ord(mark) for mark in decimal_text(nearest_at(k, field, scaled), n)]


def parts(k, n, field, a):
    """The first n parts of the value of a at place k, or all if there are fewer."""
    refusal = refusal_at(k, field, a)
    if refusal != 0:
        return [refusal]
    if n > MOST_PARTS:
        return [-3]
    return [0] + parts_at(k, n, field, a)


def trace(field, a):
    """The trace of a, as a fraction."""
    refusal = refusal_of(field, [a])
    if refusal != 0:
        return [refusal]
    return [0] + one_form([trace_of(field, a[:-1]), a[-1]])


def norm(field, a):
    """The norm of a, as a fraction."""
    refusal = refusal_of(field, [a])
    if refusal != 0:
        return [refusal]
    bottom = 1
    for step in range(len(field)):
        bottom = bottom * a[-1]
    return [0] + one_form([norm_of(field, a[:-1]), bottom])


def least(field, a):
    """The numbers of the least polynomial of a, from the constant on."""
    refusal = refusal_of(field, [a])
    if refusal != 0:
        return [refusal]
    return [0] + least_polynomial(field, a)


def whole(field, a):
    """1 if the highest number of the least polynomial of a is 1, else 0."""
    refusal = refusal_of(field, [a])
    if refusal != 0:
        return [refusal]
    return [0, 1 if least_polynomial(field, a)[-1] == 1 else 0]


def span(field, rows):
    """How many of the rows, one behind another, at most are independent."""
    refusal = refusal_of_rows(field, rows, [])
    if refusal != 0:
        return [refusal]
    return [0, count_independent(rows_apart(rows, len(field)))]


def told(field, rows, a):
    """0 if a is no sum of the rows times fractions; or 1 and these fractions as a row."""
    refusal = refusal_of_rows(field, rows, [a])
    if refusal != 0:
        return [refusal]
    summands = rows_apart(rows, len(field))
    relation = first_relation(summands + [a])
    if relation == []:
        return [0, 0]
    if len(relation) <= len(summands):
        return [-5]
    # The rows and a, times the relation's numbers, come to 0; so a is the rows times these with the other sign.
    return [0, 1] + negated(relation)


def decimal_text(number, n):
    """The number divided by 10 n times, with n digits behind the point."""
    front = "-" if number < 0 else ""
    text = str(abs(number)).zfill(n + 1)
    if n == 0:
        return front + text
    return front + text[:-n] + "." + text[-n:]


def refusal_at(k, field, a):
    """The first refusal that the field, the row or the place calls for, 0 if there is none."""
    refusal = refusal_of(field, [a])
    if refusal != 0:
        return refusal
    if k >= count_places(field):
        return -4
    return 0


def refusal_of(field, operands):
    """The first refusal that the field or a row calls for, 0 if there is none."""
    refusal = field_refusal(field)
    if refusal != 0:
        return refusal
    if are_rows(operands, len(field)):
        return 0
    return -9


def refusal_of_rows(field, rows, operands):
    """The first refusal that the field, the rows one behind another or another row calls for, 0 if there is none."""
    refusal = field_refusal(field)
    if refusal != 0:
        return refusal
    if len(rows) > MOST_ROWS * (len(field) + 1):
        return -3
    if are_rows(rows_apart(rows, len(field)) + operands, len(field)):
        return 0
    return -9


def rows_apart(numbers, degree):
    """The numbers cut into rows; what is left over at the end is shorter, so it is none."""
    width = degree + 1
    return [numbers[k:k + width] for k in range(0, len(numbers), width)]
