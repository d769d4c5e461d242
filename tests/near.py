"""Fields and rows for the calls that are asked of a place, those that are hard to tell apart among them."""

from fractions import Fraction

from rootrows.numbers import row, times
from samples import BIG, FIELDS

# The last place, and the last n, that may be asked for.
LAST = 4294967295
# Fields with two places near one another: x^d = 2 (22 x - 1)^2, so 22 x - 1 is near 0 at both.
NEAR = [([-2, 88, -968], 3), ([-2, 88, -968, 0], 4)]
ALL = FIELDS + NEAR
# A field and a number with a power of it that is near 0 at a place, though its row has great numbers.
SMALL = [([-2, 0], [-1, 1, 1]), ([-1, -1], [0, 1, 1]), ([-2, 0, 0], [-1, 1, 0, 1]), ([1, -3, 0], [0, 1, 0, 1]),
         ([-1, -2, 1], [0, 1, 0, 1]), ([1, 0, -10, 0], [0, 1, 0, 0, 1]), ([-2, 0, 0, 0], [-1, 1, 0, 0, 1])]


def fraction_of(a):
    """The value of a row without x."""
    return Fraction(a[0], a[-1])


def has_no_x(a):
    return not any(a[1:-1])


def near_whole_rows(field, a):
    """The greatest power of a that may be handed in, and the same a whole number away."""
    greatest = row(field, a)[1:]
    while max(abs(n) for n in times(field, greatest, a)[1:]) <= BIG // 2:
        greatest = times(field, greatest, a)[1:]
    for away in (0, 1, -1, 1000, -10 ** 15):
        for factor in (1, -1):
            yield [factor * greatest[0] + away * greatest[-1]] + [factor * n for n in greatest[1:-1]] + greatest[-1:]
