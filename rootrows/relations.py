"""Relations: which sums of rows times fractions come to 0.

Rows are gone through one after another, and of each the earlier ones are taken away as often as its numerators ask for
(the elimination of Gauss, with whole numbers alone). A line is a list of numerators, and behind them how often each of
the rows was taken to make them; a row by itself was taken as often as its denominator says.
"""

from rootrows.divisors import without_divisor
from rootrows.reckoning import multiplied, one_form, whole_row


def first_relation(rows):
    """The relation of the first rows that are not independent, [] if all are.

    It is a list of whole numbers without a common divisor, one for each of these rows, the last above 0: the rows times
    these numbers come to 0.
    """
    lines = []
    for k in range(len(rows)):
        numerators = rows[k][:-1]
        times_taken = [0] * k + [rows[k][-1]] + [0] * (len(rows) - k - 1)
        line = reduced(numerators + times_taken, lines)
        if not any(line[:len(numerators)]):
            end = len(numerators) + k + 1
            return with_last_above_zero(line[len(numerators):end])
        lines.append(line)
    return []


def count_independent(rows):
    """How many of the rows at most are independent."""
    lines = []
    for row in rows:
        line = reduced(row[:-1], lines)
        if any(line):
            lines.append(line)
    return len(lines)


def reduced(line, lines):
    """A line with 0 where one of the lines has its first number that is not 0.

    Each of the lines has 0 there where those before it have that number, so what became 0 stays 0.
    """
    rest = line
    for other in lines:
        place = first_place(other)
        if rest[place] != 0:
            rest = without_divisor([other[place] * m - rest[place] * n for m, n in zip(rest, other)])
    return rest


def first_place(line):
    """The place of the first number that is not 0; there is one."""
    place = 0
    while line[place] == 0:
        place += 1
    return place


def with_last_above_zero(numbers):
    """The numbers without their common divisor, and with the sign that brings the last above 0; it is not 0."""
    answer = without_divisor(numbers)
    if answer[-1] < 0:
        return [-number for number in answer]
    return answer


def least_polynomial(field, a):
    """The least polynomial of a, from the constant on: the relation of its first powers that are not independent."""
    shortest = one_form(a)
    powers = [whole_row(1, len(field))]
    for step in range(len(field)):
        powers.append(multiplied(field, powers[-1], shortest))
    return first_relation(powers)
