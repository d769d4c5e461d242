"""trace and norm: fractions that tell of the map which multiplies by a number."""

import unittest
from fractions import Fraction
from math import gcd

from maps import determinant, diagonal_sum, map_of
from rootrows.numbers import minus, norm, over, plus, power, times, trace
from samples import BIG, FIELDS, Fixed, NO_FIELDS, ONE_EACH, PRODUCTS, rows_for, rows_that_are_none

CALLS = (trace, norm)


def told_as(fraction):
    return [0, fraction.numerator, fraction.denominator]


def fraction_from(answer):
    assert answer[0] == 0 and len(answer) == 3, answer
    return Fraction(answer[1], answer[2])


def root_of(field):
    return [-field[0], 1] if len(field) == 1 else [0, 1] + [0] * (len(field) - 2) + [1]


class TraceNormTest(unittest.TestCase):

    def test_written_out(self):
        for field, a, trace_asked, norm_asked in [
            ([-5], [7, 2], [7, 2], [7, 2]), ([-5], [-6, 4], [-3, 2], [-3, 2]), ([-5], [0, 4], [0, 1], [0, 1]),
            ([-5], [5, 1], [5, 1], [5, 1]), ([0], [BIG, 1], [BIG, 1], [BIG, 1]), ([0], [-1, BIG], [-1, BIG], [-1, BIG]),
            ([-2, 0], [0, 1, 1], [0, 1], [-2, 1]), ([-2, 0], [1, 1, 1], [2, 1], [-1, 1]),
            ([-2, 0], [3, 1, 1], [6, 1], [7, 1]), ([-2, 0], [3, 1, 2], [3, 1], [7, 4]),
            ([-2, 0], [-3, 1, 2], [-3, 1], [7, 4]), ([-2, 0], [0, 2, 6], [0, 1], [-2, 9]),
            ([-2, 0], [0, 0, 9], [0, 1], [0, 1]), ([-2, 0], [3, 0, 9], [2, 3], [1, 9]),
            ([-2, 0], [-3, 0, 9], [-2, 3], [1, 9]), ([1, 0], [3, 4, 5], [6, 5], [1, 1]),
            ([1, 0], [0, 1, 1], [0, 1], [1, 1]), ([-1, -1], [0, 1, 1], [1, 1], [-1, 1]),
            ([-1, -1], [1, 1, 2], [3, 2], [1, 4]), ([-5, 0], [1, 1, 2], [1, 1], [-1, 1]),
            ([7, 3], [0, 1, 1], [-3, 1], [7, 1]),
            ([-2, 0, 0], [0, 1, 0, 1], [0, 1], [2, 1]), ([-2, 0, 0], [0, -1, 0, 1], [0, 1], [-2, 1]),
            ([-2, 0, 0], [1, 1, 1, 1], [3, 1], [1, 1]), ([-2, 0, 0], [0, 1, 0, 3], [0, 1], [2, 27]),
            ([-2, 0, 0], [-1, 0, 0, 2], [-3, 2], [-1, 8]), ([3, 5, 7], [0, 1, 0, 1], [-7, 1], [-3, 1]),
            ([3, 5, 7], [0, 0, 1, 1], [39, 1], [9, 1]),
            ([1, 0, 0, 0], [0, 1, 0, 0, 1], [0, 1], [1, 1]), ([1, 0, 0, 0], [1, 1, 0, 0, 1], [4, 1], [2, 1]),
            ([-2, 0, 0, 0], [0, 1, 0, 0, 1], [0, 1], [-2, 1]), ([-2, 0, 0, 0], [0, 0, 1, 0, 1], [0, 1], [4, 1]),
            ([1, 0, -10, 0], [0, 0, 1, 0, 1], [20, 1], [1, 1]), ([1, 0, -10, 0], [0, -9, 0, 1, 2], [0, 1], [4, 1]),
            ([3, 5, 7, 11], [0, 1, 0, 0, 1], [-11, 1], [3, 1]), ([1, 0, -10, 0], [-1, 0, 0, 0, 2], [-2, 1], [1, 16]),
            ([1, 1, 1, 1], [0, 1, 0, 0, 1], [-1, 1], [1, 1]), ([1, 1, 1, 1], [1, -1, 0, 0, 1], [5, 1], [5, 1]),
            ([1, 0], [BIG, 0, 1], [2 * BIG, 1], [BIG ** 2, 1]), ([1, 0], [1, 0, BIG], [2, BIG], [1, BIG ** 2]),
            ([1, 0], [BIG, BIG, 1], [2 * BIG, 1], [2 * BIG ** 2, 1]),
            ([1, 0, 0, 0], [-BIG, 0, 0, 0, 1], [-4 * BIG, 1], [BIG ** 4, 1]),
            ([1, 0, 0, 0], [0, 0, 0, BIG, BIG - 1], [0, 1], [BIG ** 4, (BIG - 1) ** 4]),
            ([-2, 0, 0], [0, 0, -BIG, 1], [0, 1], [-4 * BIG ** 3, 1]),
        ]:
            with self.subTest(field=field, a=a):
                self.assertEqual(trace(field, a), [0] + trace_asked)
                self.assertEqual(norm(field, a), [0] + norm_asked)

    def test_all_samples(self):
        for field, places in FIELDS:
            for a in rows_for(len(field)):
                matrix = map_of(field, a)
                self.assertEqual(trace(field, a), told_as(diagonal_sum(matrix)), (field, a))
                self.assertEqual(norm(field, a), told_as(determinant(matrix)), (field, a))

    def test_0(self):
        for field, places in FIELDS:
            for last in (1, 2, 12, BIG):
                for call in CALLS:
                    self.assertEqual(call(field, [0] * len(field) + [last]), [0, 0, 1])

    def test_fractions(self):
        for field, places in FIELDS:
            d = len(field)
            for top, bottom in [(1, 1), (-1, 1), (2, 3), (-2, 3), (6, 4), (-9, 12), (BIG, 2), (-1, BIG), (BIG, BIG)]:
                a = [top] + [0] * (d - 1) + [bottom]
                self.assertEqual(trace(field, a), told_as(d * Fraction(top, bottom)))
                self.assertEqual(norm(field, a), told_as(Fraction(top, bottom) ** d))

    def test_x(self):
        # The sum of the roots, and their product: f is their polynomial.
        for field, places in FIELDS:
            self.assertEqual(trace(field, root_of(field)), [0, -field[-1], 1])
            self.assertEqual(norm(field, root_of(field)), [0, field[0] if len(field) % 2 == 0 else -field[0], 1])

    def test_x_less_a_whole_number(self):
        # The norm of x - m is f at m, but for the sign.
        for field, places in FIELDS:
            d = len(field)
            for m in (-1000, -3, -1, 0, 1, 2, 1000):
                a = minus(field, root_of(field), [m] + [0] * (d - 1) + [1])[1:]
                value = sum(c * m ** k for k, c in enumerate(field)) + m ** d
                self.assertEqual(norm(field, a), [0, value * (-1) ** d, 1])

    def test_traces_add_and_norms_multiply(self):
        for field, places in FIELDS:
            rows = rows_for(len(field))
            for a in rows:
                for b in rows[1::2]:
                    left, right = fraction_from(trace(field, a)), fraction_from(trace(field, b))
                    self.assertEqual(trace(field, plus(field, a, b)[1:]), told_as(left + right))
                    self.assertEqual(trace(field, minus(field, a, b)[1:]), told_as(left - right))
                    left, right = fraction_from(norm(field, a)), fraction_from(norm(field, b))
                    self.assertEqual(norm(field, times(field, a, b)[1:]), told_as(left * right))
                    if any(b[:-1]):
                        self.assertEqual(norm(field, over(field, a, b)[1:]), told_as(left / right))

    def test_only_0_has_norm_0(self):
        for field, places in FIELDS:
            for a in rows_for(len(field)):
                self.assertEqual(norm(field, a)[1] == 0, not any(a[:-1]))

    def test_norms_of_powers(self):
        for field in ONE_EACH:
            for a in rows_for(len(field)):
                for k in (0, 1, 2, 20):
                    self.assertEqual(norm(field, power(k, field, a)[1:]), told_as(fraction_from(norm(field, a)) ** k))

    def test_lowest_terms(self):
        for field, places in FIELDS:
            for a in rows_for(len(field)):
                for call in CALLS:
                    answer = call(field, a)
                    self.assertEqual(len(answer), 3)
                    self.assertGreater(answer[2], 0)
                    self.assertEqual(gcd(answer[1], answer[2]), 1)

    def test_rows_of_the_same_number(self):
        for field, places in FIELDS:
            for a in ([3, -2, 5, 1, 7], [-1, 1, 0, 0, 2], [0, 0, 0, 0, 3]):
                a = a[:len(field)] + a[-1:]
                for factor in (2, 30, 10 ** 15):
                    for call in CALLS:
                        self.assertEqual(call(field, [factor * n for n in a]), call(field, a))


class RefusalTest(unittest.TestCase):

    def test_no_numbers(self):
        for field in ONE_EACH + ([1, 0], [1, 0, 0, 0]):
            for a in rows_that_are_none(len(field)):
                for call in CALLS:
                    self.assertEqual(call(field, a), [-9], (field, a))

    def test_no_fields(self):
        for refusal, fields in [(-1, NO_FIELDS), (-2, PRODUCTS)]:
            for field in fields:
                for a in ([1] * (len(field) + 1), [0] * len(field) + [1], [], [0], [BIG] * 10):
                    for call in CALLS:
                        self.assertEqual(call(field, a), [refusal], (field, a))

    def test_first_refusal_counts(self):
        for call in CALLS:
            self.assertEqual(call([0, 1001], [1]), [-1])
            self.assertEqual(call([0, 1000], [1]), [-2])
            self.assertEqual(call([3, 1000], [1]), [-9])
            self.assertEqual(call([3, 1000], [1, 1, 0]), [-9])
            self.assertEqual(call([3, 1000], [1, 1, 1])[0], 0)

    def test_what_is_handed_in_stays(self):
        for field, a in [([-2, 0], [6, -4, 2]), ([-2, 0], [0, 0, 4]), ([-2, 0], [1]), ([0, 0], [1, 1, 1]), ([], []),
                         ([-5], [6, 4]), ([1, -3, 0], [2, 4, 6, 8]), ([1, 0, -10, 0], [2, 4, 6, 8, 10])]:
            for call in CALLS:
                given = (Fixed(field), Fixed(a))
                first = call(*given)
                kept = list(first)
                self.assertEqual([list(g) for g in given], [field, a])
                first.append(99)
                self.assertEqual(call(*given), kept)

    def test_kinds(self):
        for field, a in [([-2, 0], [6, -4, 2]), ([-2, 0], [0, 0, 4]), ([-5], [1, 1]), ([-2, 0], [1]), ([0, 0], []),
                         ([], [])]:
            for call in CALLS:
                answer = call(field, a)
                self.assertIs(type(answer), list)
                self.assertTrue(all(type(n) is int for n in answer))


if __name__ == "__main__":
    unittest.main()
