"""Inputs that several tests share, and ways of handing them in."""

from fractions import Fraction
from math import lcm

BIG = 2 ** 63 - 1

# One field for each degree is enough where the degree alone matters.
ONE_EACH = ([-5], [-2, 0], [1, -3, 0], [1, 0, -10, 0])

# Fields that are no products, with how many places they have.
FIELDS = [
    ([0], 1), ([-5], 1), ([1000], 1), ([-1000], 1),
    ([-2, 0], 2), ([1, 0], 0), ([-1, -1], 2), ([1, 1], 0),
    ([991, 63], 2), ([993, 63], 0), ([1000, 1000], 2), ([-1000, 0], 2), ([1000, 0], 0),
    ([-2, 0, 0], 1), ([1, -3, 0], 3), ([1, 1, 0], 1), ([-1, -1, -1], 1), ([-1, -2, 1], 3), ([1, -1000, 1000], 3),
    ([1, 0, 0, 0], 0), ([1, 1, 1, 1], 0), ([-2, 0, 0, 0], 2), ([-1, -1, 0, 0], 2),
    ([1, 0, -10, 0], 4), ([2, 0, -4, 0], 4), ([1, 0, -1000, 0], 4), ([997, 1000, 1000, 1000], 2),
]

# Fields that are products: with 0 as a root, with another whole root, with a double root, without a root.
PRODUCTS = [
    [0, 0], [0, 7], [-1, 0], [6, -5], [4, 4], [-1000, -999], [-1000, 999],
    [0, 0, 0], [0, 1, 0], [-1, 0, 0], [-1000, 1, -1000], [8, 12, 6], [30, -31, 0],
    [0, 0, 0, 0], [0, 3, 1, 0], [-1, 0, 0, 0], [-2, 2, 0, -1], [16, -32, 24, -8],
    [4, 0, 0, 0], [1, 0, 2, 0], [1, 0, 1, 0], [6, 0, -5, 0], [15, -1, 6, -1], [-15, -11, -4, -1], [1, 2, 3, 2],
    [961, 0, 62, 0], [-1000, 0, 999, 0], [4, 0, -4, 0],
]

# Fields of degree 4, with a number of degree 2 in each.
WITHIN = [
    ([1, 0, -10, 0], [0, 0, 1, 0, 1]), ([1, 0, -10, 0], [0, -9, 0, 1, 2]), ([1, 0, -10, 0], [0, 11, 0, -1, 2]),
    ([2, 0, -4, 0], [0, 0, 1, 0, 1]), ([1, 0, 0, 0], [0, 0, 1, 0, 1]), ([1, 0, 0, 0], [0, 1, 0, 1, 1]),
    ([1, 0, 0, 0], [0, 1, 0, -1, 1]), ([-2, 0, 0, 0], [0, 0, 1, 0, 1]), ([1, 1, 1, 1], [0, 0, 1, 1, 1]),
    ([1, 0, -1000, 0], [0, 0, 1, 0, 1]),
]

# Rows of numbers that tell no field by their form.
NO_FIELDS = [
    [], [1, 0, 0, 0, 0], [0, 0, 0, 0, 0], [1] * 10,
    [1001], [-1001], [1001, 0], [0, 1001], [-2, -1001, 0], [0, 0, 0, -1001], [1, 0, 0, 1001],
    [BIG], [-BIG], [-2, BIG], [0, 0, -BIG], [BIG, BIG, BIG, BIG],
]


class Fixed(list):
    """A list that fails when it is changed, even if only for a while."""

    def refuse(self, *args, **kwargs):
        raise AssertionError("a list that was handed in is changed")

    append = clear = extend = insert = pop = remove = reverse = sort = refuse
    __setitem__ = __delitem__ = __iadd__ = __imul__ = refuse


def rows_that_are_none(d):
    """Lists that are the row of no number in a field of degree d."""
    return [
        [], [1], [1] * d, [1] * (d + 2), [1] * 10, [BIG] * (d + 2),
        [1] * d + [0], [0] * (d + 1), [1] * d + [-1], [2] * d + [-2], [BIG] * d + [-BIG],
    ]


def fractions_of(numbers):
    return [Fraction(n, numbers[-1]) for n in numbers[:-1]]


def row_of(fractions):
    """The one form of the number with these fractions."""
    least = lcm(*[f.denominator for f in fractions])
    return [f.numerator * (least // f.denominator) for f in fractions] + [least]


def product_of_fractions(field, p, q):
    """The product of two numbers as fractions: x^k times a number is k times its product with x."""
    d = len(field)
    answer = [Fraction(0)] * d
    shifted = list(q)
    for n in p:
        answer = [m + n * s for m, s in zip(answer, shifted)]
        shifted = [s - shifted[-1] * c for s, c in zip([0] + shifted[:-1], field)]
    return answer


def rows_for(d):
    """Rows of a field of degree d: 0, below 0, with shared divisors, great ones."""
    full = [
        [0, 0, 0, 0, 1], [0, 0, 0, 0, 12], [0, 0, 0, 0, BIG],
        [1, 0, 0, 0, 1], [0, 0, 0, 3, 1], [6, 10, -4, 8, 2], [6, 10, -4, 8, 4], [-3, -9, -27, -81, 6],
        [5, 0, -5, 10, 15], [-1, 2, -3, 4, 7], [1, 2, 3, 4, 1000], [-7, 7, 7, -7, 49],
        [BIG, -BIG, BIG, -BIG, BIG], [BIG, -BIG, BIG - 1, 1 - BIG, 1], [-BIG, 1, 0, BIG - 2, BIG - 1],
        [2 ** 62, -2 ** 61, 2 ** 60, 0, 2 ** 62], [7 * 73, -7, 49 * 127, 0, BIG],
    ]
    return [numbers[:d] + numbers[-1:] for numbers in full]


def numbers_of(field):
    """The samples, x, and those of a lesser field with fractions."""
    d = len(field)
    found = rows_for(d)
    if d > 1:
        found.append([0, 1] + [0] * (d - 2) + [1])
        found.append([5, -2] + [0] * (d - 2) + [6])
    for larger, a in WITHIN:
        if larger == field:
            found.append(a)
            found.append([3 * n for n in a[:-1]] + [4 * a[-1]])
            found.append([7 * a[-1] - 5 * a[0]] + [-5 * n for n in a[1:-1]] + [9 * a[-1]])
            found.append([BIG // 4 - 3 * a[0]] + [-3 * n for n in a[1:-1]] + [BIG // 2])
    return found


def one_behind_another(rows):
    return [n for numbers in rows for n in numbers]
