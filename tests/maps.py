"""Maps, ranks and sums of vectors, in fractions."""

from fractions import Fraction
from itertools import permutations

from samples import fractions_of, product_of_fractions


def map_of(field, a):
    """What becomes of 1, x, ..., x^(d-1) when they are multiplied by a."""
    d = len(field)
    units = [[Fraction(int(i == k)) for i in range(d)] for k in range(d)]
    return [product_of_fractions(field, unit, fractions_of(a)) for unit in units]


def diagonal_sum(matrix):
    return sum([matrix[k][k] for k in range(len(matrix))], Fraction(0))


def determinant(matrix):
    """The sum over all orders of the columns, as it is defined."""
    total = Fraction(0)
    for order in permutations(range(len(matrix))):
        product = Fraction(1)
        for k, column in enumerate(order):
            product *= matrix[k][column]
        inversions = sum(order[i] > order[k] for k in range(len(order)) for i in range(k))
        total += product if inversions % 2 == 0 else -product
    return total


def polynomial_of_map(field, a):
    """The numbers of the polynomial of the map, from the highest on, by the traces of its powers (Newton)."""
    d = len(field)
    matrix = map_of(field, a)
    sums = []
    image = matrix
    for k in range(d):
        sums.append(diagonal_sum(image))
        image = [combined(line, matrix, d) for line in image]
    numbers = [Fraction(1)]
    for k in range(1, d + 1):
        numbers.append(-sum(numbers[k - i] * sums[i - 1] for i in range(1, k + 1)) / k)
    return numbers


def rank_of(vectors):
    """How many of the vectors at most are independent, by elimination column by column."""
    rest = [list(vector) for vector in vectors]
    rank = 0
    for column in range(len(rest[0]) if rest else 0):
        pivot = next((k for k in range(rank, len(rest)) if rest[k][column] != 0), None)
        if pivot is None:
            continue
        rest[rank], rest[pivot] = rest[pivot], rest[rank]
        for k in range(rank + 1, len(rest)):
            factor = rest[k][column] / rest[rank][column]
            rest[k] = [m - factor * n for m, n in zip(rest[k], rest[rank])]
        rank += 1
    return rank


def powers_of(field, a, count):
    """The first powers of a, from 1 on, as fractions."""
    powers = [[Fraction(1)] + [Fraction(0)] * (len(field) - 1)]
    while len(powers) < count:
        powers.append(product_of_fractions(field, powers[-1], fractions_of(a)))
    return powers


def combined(factors, vectors, d):
    """The sum of the vectors times the factors."""
    total = [Fraction(0)] * d
    for factor, vector in zip(factors, vectors):
        total = [m + factor * n for m, n in zip(total, vector)]
    return total
