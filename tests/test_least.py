"""least: the least polynomial of a number."""

import unittest
from fractions import Fraction
from math import gcd

from maps import combined, determinant, map_of, powers_of, rank_of
from rootrows.numbers import least, norm, plus, power, trace, value
from samples import BIG, FIELDS, Fixed, NO_FIELDS, ONE_EACH, PRODUCTS, WITHIN, numbers_of, rows_that_are_none


class LeastTest(unittest.TestCase):

    def test_written_out(self):
        for field, a, answer in [
            ([-5], [0, 1], [0, 1]), ([-5], [0, 7], [0, 1]), ([-5], [5, 1], [-5, 1]), ([-5], [-6, 4], [3, 2]),
            ([-5], [BIG, 1], [-BIG, 1]), ([-5], [-1, BIG], [1, BIG]), ([-5], [BIG, BIG - 1], [-BIG, BIG - 1]),
            ([-2, 0], [0, 0, 5], [0, 1]), ([-2, 0], [3, 0, 1], [-3, 1]), ([-2, 0], [-6, 0, 4], [3, 2]),
            ([-2, 0], [0, 1, 1], [-2, 0, 1]), ([-2, 0], [0, -1, 1], [-2, 0, 1]), ([-2, 0], [1, 1, 1], [-1, -2, 1]),
            ([-2, 0], [0, 1, 2], [-1, 0, 2]), ([-2, 0], [2, 4, 6], [-7, -6, 9]), ([-2, 0], [1, 1, 3], [-1, -6, 9]),
            ([-5, 0], [1, 1, 2], [-1, -1, 1]), ([-5, 0], [1, 1, 4], [-1, -2, 4]), ([1, 0], [0, 1, 1], [1, 0, 1]),
            ([1, 0], [3, 4, 5], [5, -6, 5]), ([7, 3], [0, 1, 1], [7, 3, 1]),
            ([1, 0], [0, BIG, 1], [BIG ** 2, 0, 1]), ([1, 0], [0, 1, BIG], [1, 0, BIG ** 2]),
            ([1, 0], [BIG, BIG, 1], [2 * BIG ** 2, -2 * BIG, 1]),
            ([-2, 0, 0], [0, 0, 0, 9], [0, 1]), ([-2, 0, 0], [4, 0, 0, 6], [-2, 3]),
            ([-2, 0, 0], [0, 1, 0, 1], [-2, 0, 0, 1]), ([-2, 0, 0], [0, 0, 1, 1], [-4, 0, 0, 1]),
            ([-2, 0, 0], [0, 0, 1, 2], [-1, 0, 0, 2]), ([-2, 0, 0], [1, 1, 1, 1], [-1, -3, -3, 1]),
            ([-2, 0, 0], [0, 0, -BIG, 1], [4 * BIG ** 3, 0, 0, 1]),
            ([1, -3, 0], [0, 0, 1, 1], [-1, 9, -6, 1]),
            ([1, 0, -10, 0], [0, 0, 0, 0, 9], [0, 1]), ([1, 0, -10, 0], [7, 0, 0, 0, 1], [-7, 1]),
            ([1, 0, -10, 0], [7, 0, 0, 0, 21], [-1, 3]), ([1, 0, -10, 0], [0, 1, 0, 0, 1], [1, 0, -10, 0, 1]),
            ([1, 0, -10, 0], [0, 1, 0, 0, 2], [1, 0, -40, 0, 16]), ([1, 0, -10, 0], [0, 0, 1, 0, 1], [1, -10, 1]),
            ([1, 0, -10, 0], [0, -9, 0, 1, 2], [-2, 0, 1]), ([1, 0, -10, 0], [0, 11, 0, -1, 2], [-3, 0, 1]),
            ([1, 0, -10, 0], [0, 11, 0, -1, 6], [-1, 0, 3]), ([1, 0, -10, 0], [-5, 0, 1, 0, 2], [-6, 0, 1]),
            ([2, 0, -4, 0], [0, 0, 1, 0, 1], [2, -4, 1]), ([1, 0, 0, 0], [0, 0, 1, 0, 1], [1, 0, 1]),
            ([1, 0, 0, 0], [0, 1, 0, 1, 1], [2, 0, 1]), ([1, 0, 0, 0], [0, 1, 0, -1, 1], [-2, 0, 1]),
            ([1, 1, 1, 1], [0, 0, 1, 1, 1], [-1, 1, 1]), ([1, 1, 1, 1], [0, 1, 0, 0, 1], [1, 1, 1, 1, 1]),
            ([-2, 0, 0, 0], [0, 0, 0, BIG, 1], [-8 * BIG ** 4, 0, 0, 0, 1]),
            ([-2, 0, 0, 0], [0, 0, BIG, 0, 1], [-2 * BIG ** 2, 0, 1]),
        ]:
            with self.subTest(field=field, a=a):
                self.assertEqual(least(field, a), [0] + answer)

    def test_what_makes_it_the_least(self):
        for field, places in FIELDS:
            d = len(field)
            for a in numbers_of(field):
                answer = least(field, a)
                self.assertEqual(answer[0], 0)
                numbers = answer[1:]
                degree = len(numbers) - 1
                with self.subTest(field=field, a=a):
                    self.assertIn(degree, range(1, d + 1))
                    self.assertGreater(numbers[-1], 0)
                    self.assertEqual(gcd(*numbers), 1)
                    powers = powers_of(field, a, degree + 1)
                    self.assertEqual(combined(numbers, powers, d), [0] * d)
                    # One of lesser degree would make these powers depend on one another.
                    self.assertEqual(rank_of(powers[:degree]), degree)

    def test_degrees(self):
        for field, a in WITHIN:
            self.assertEqual(len(least(field, a)), 4, (field, a))
        for field, places in FIELDS:
            d = len(field)
            for top, bottom in [(0, 1), (0, BIG), (1, 1), (-4, 6), (BIG, 2), (5, BIG)]:
                number = Fraction(top, bottom)
                a = [top] + [0] * (d - 1) + [bottom]
                self.assertEqual(least(field, a), [0, -number.numerator, number.denominator])
            if d in (2, 3):
                for a in numbers_of(field):
                    self.assertEqual(len(least(field, a)), d + 2 if any(a[1:-1]) else 3, (field, a))

    def test_x_has_f(self):
        for field, places in FIELDS:
            x = [-field[0], 1] if len(field) == 1 else [0, 1] + [0] * (len(field) - 2) + [1]
            self.assertEqual(least(field, x), [0] + field + [1])

    def test_it_is_0_of_its_number(self):
        for field, places in FIELDS:
            d = len(field)
            for a in numbers_of(field):
                rows = [n for m in least(field, a)[1:] for n in [m] + [0] * (d - 1) + [1]]
                self.assertEqual(value(field, rows, a), [0] + [0] * d + [1], (field, a))

    def test_trace_and_norm(self):
        # d / degree times the sum of its roots is the trace; their product to that power is the norm.
        for field, places in FIELDS:
            d = len(field)
            for a in numbers_of(field):
                numbers = least(field, a)[1:]
                degree = len(numbers) - 1
                self.assertEqual(d % degree, 0)
                roots_sum = Fraction(-numbers[-2], numbers[-1]) * (d // degree)
                product = (Fraction(numbers[0], numbers[-1]) * (-1) ** degree) ** (d // degree)
                self.assertEqual(trace(field, a), [0, roots_sum.numerator, roots_sum.denominator])
                self.assertEqual(norm(field, a), [0, product.numerator, product.denominator])

    def test_at_whole_numbers(self):
        # The determinant of m less the map, for whole m, is the polynomial at m, to the power d / degree.
        for field in ONE_EACH:
            d = len(field)
            for a in numbers_of(field):
                numbers = least(field, a)[1:]
                for m in (-2, 0, 1, 7):
                    here = sum(Fraction(n, numbers[-1]) * m ** k for k, n in enumerate(numbers))
                    matrix = [[m * (i == k) - n for k, n in enumerate(line)] for i, line in enumerate(map_of(field, a))]
                    self.assertEqual(determinant(matrix), here ** (d // (len(numbers) - 1)), (field, a, m))

    def test_whole_numbers_more_or_less(self):
        # Another number of the same field has a polynomial of the same degree and the same highest number.
        for field, places in FIELDS:
            one = [1] + [0] * (len(field) - 1) + [1]
            for a in numbers_of(field):
                answer = least(field, a)
                other = least(field, plus(field, a, one)[1:])
                self.assertEqual((len(answer), answer[-1]), (len(other), other[-1]))

    def test_inverses_have_it_the_other_way_round(self):
        for field, places in FIELDS:
            for a in numbers_of(field):
                if any(a[:-1]):
                    numbers = least(field, a)[:0:-1]
                    if numbers[-1] < 0:
                        numbers = [-n for n in numbers]
                    self.assertEqual(least(field, power(-1, field, a)[1:]), [0] + numbers)

    def test_rows_of_the_same_number(self):
        for field, places in FIELDS:
            for a in ([3, -2, 5, 1, 7], [-1, 1, 0, 0, 2], [0, 0, 0, 0, 3]):
                a = a[:len(field)] + a[-1:]
                for factor in (2, 30, 10 ** 15):
                    self.assertEqual(least(field, [factor * n for n in a]), least(field, a))


class RefusalTest(unittest.TestCase):

    def test_no_numbers(self):
        for field in ONE_EACH + ([1, 0], [1, 0, 0, 0]):
            for a in rows_that_are_none(len(field)):
                self.assertEqual(least(field, a), [-9], (field, a))

    def test_no_fields(self):
        for refusal, fields in [(-1, NO_FIELDS), (-2, PRODUCTS)]:
            for field in fields:
                for a in ([1] * (len(field) + 1), [0] * len(field) + [1], [], [0], [BIG] * 10):
                    self.assertEqual(least(field, a), [refusal], (field, a))

    def test_first_refusal_counts(self):
        self.assertEqual(least([0, 1001], [1]), [-1])
        self.assertEqual(least([0, 1000], [1]), [-2])
        self.assertEqual(least([3, 1000], [1]), [-9])
        self.assertEqual(least([3, 1000], [1, 1, 0]), [-9])

    def test_what_is_handed_in_stays(self):
        for field, a in [([-2, 0], [6, -4, 2]), ([-2, 0], [0, 0, 4]), ([-2, 0], [1]), ([0, 0], [1, 1, 1]), ([], []),
                         ([-5], [6, 4]), ([1, -3, 0], [2, 4, 6, 8]), ([1, 0, -10, 0], [2, 0, 6, 0, 10]),
                         ([1, 0, -10, 0], [2, 4, 6, 8, 10])]:
            given = (Fixed(field), Fixed(a))
            first = least(*given)
            kept = list(first)
            self.assertEqual([list(g) for g in given], [field, a])
            first.append(99)
            self.assertEqual(least(*given), kept)

    def test_kinds(self):
        for field, a in [([-2, 0], [6, -4, 2]), ([-2, 0], [0, 0, 4]), ([-5], [1, 1]), ([-2, 0], [1]), ([0, 0], []),
                         ([], [])]:
            answer = least(field, a)
            self.assertIs(type(answer), list)
            self.assertTrue(all(type(n) is int for n in answer))


if __name__ == "__main__":
    unittest.main()
