"""whole: whether the least polynomial of a number has 1 in front."""

import unittest
from fractions import Fraction

from maps import polynomial_of_map
from rootrows.numbers import least, minus, plus, power, times, whole
from samples import BIG, FIELDS, Fixed, NO_FIELDS, ONE_EACH, PRODUCTS, WITHIN, numbers_of, rows_that_are_none

# Numbers that are whole though their row has a denominator above 1.
WHOLE_ALL_THE_SAME = [
    ([-5, 0], [1, 1, 2]), ([-5, 0], [3, -1, 2]), ([3, 0], [1, 1, 2]), ([-1000, 0], [0, 3, 10]),
    ([-45, 0], [0, 1, 3]), ([-45, 0], [3, 1, 6]), ([999, 996], [1, 1, 2]),
    ([-10, 0, 0], [1, 1, 1, 3]), ([-8, -2, -1], [0, 1, 1, 2]), ([-54, 0, 0], [0, 1, 0, 3]), ([-4, 0, 0], [0, 0, 1, 2]),
    ([1, 0, -10, 0], [0, -9, 0, 1, 2]), ([1, 0, -10, 0], [0, 11, 0, -1, 2]), ([1, 0, -10, 0], [-5, 0, 1, 0, 2]),
    ([1, 0, -10, 0], [-5, -9, 1, 1, 4]), ([-20, 0, 0, 0], [0, 0, 1, 0, 2]), ([-20, 0, 0, 0], [2, 0, 1, 0, 4]),
    ([-5, 0, 0, 0], [1, 0, 1, 0, 2]), ([-5, 0, 0, 0], [1, 1, 1, 1, 2]),
]
# Numbers of the same form that are not.
NOT_WHOLE = [
    ([-5, 0], [1, 0, 2]), ([-5, 0], [0, 1, 2]), ([-5, 0], [1, 1, 4]), ([-5, 0], [2, 1, 2]), ([-2, 0], [1, 1, 2]),
    ([-3, 0], [1, 1, 2]), ([1, 0], [3, 4, 5]), ([-45, 0], [0, 1, 9]), ([-45, 0], [0, 1, 6]),
    ([-10, 0, 0], [1, 1, 0, 3]), ([-10, 0, 0], [1, 1, 1, 9]), ([-2, 0, 0], [1, 1, 1, 3]), ([-8, -2, -1], [0, 1, 1, 4]),
    ([-8, -2, -1], [0, 1, 0, 2]), ([-54, 0, 0], [0, 1, 0, 6]),
    ([1, 0, -10, 0], [0, 1, 0, 0, 2]), ([1, 0, -10, 0], [0, -9, 0, 1, 4]), ([1, 0, -10, 0], [-5, -9, 1, 1, 8]),
    ([1, 0, -10, 0], [1, 0, 1, 0, 4]), ([-20, 0, 0, 0], [0, 1, 0, 0, 2]), ([-5, 0, 0, 0], [1, 1, 0, 0, 2]),
]


def is_whole(field, a):
    return all(number.denominator == 1 for number in polynomial_of_map(field, a))


class WholeTest(unittest.TestCase):

    def test_whole_all_the_same(self):
        for field, a in WHOLE_ALL_THE_SAME:
            with self.subTest(field=field, a=a):
                self.assertTrue(is_whole(field, a))
                self.assertEqual(whole(field, a), [0, 1])

    def test_not_whole(self):
        for field, a in NOT_WHOLE:
            with self.subTest(field=field, a=a):
                self.assertFalse(is_whole(field, a))
                self.assertEqual(whole(field, a), [0, 0])

    def test_all_samples(self):
        found = {0: 0, 1: 0}
        for field, places in FIELDS:
            for a in numbers_of(field):
                answer = whole(field, a)
                found[answer[1]] += 1
                self.assertEqual(answer, [0, int(is_whole(field, a))], (field, a))
                self.assertEqual(answer, [0, int(least(field, a)[-1] == 1)], (field, a))
        self.assertGreater(min(found.values()), 100)

    def test_whole_numbers_and_fractions(self):
        for field, places in FIELDS:
            for top in (0, 1, -1, 6, -6, 35, BIG, -BIG):
                for bottom in (1, 2, 3, 6, 7, BIG - 1, BIG):
                    a = [top] + [0] * (len(field) - 1) + [bottom]
                    self.assertEqual(whole(field, a), [0, int(Fraction(top, bottom).denominator == 1)])

    def test_x(self):
        for field, places in FIELDS:
            d = len(field)
            x = [-field[0]] if d == 1 else [0, 1] + [0] * (d - 2)
            self.assertEqual(whole(field, x + [1]), [0, 1])
            self.assertEqual(whole(field, [BIG * n if abs(n) == 1 else n for n in x] + [1]), [0, 1])
            self.assertEqual(whole(field, [12 * n for n in x] + [12]), [0, 1])
            if d > 1:
                self.assertEqual(whole(field, x + [BIG]), [0, 0])

    def test_denominator_1(self):
        for field, places in FIELDS:
            for a in numbers_of(field):
                self.assertEqual(whole(field, a[:-1] + [1]), [0, 1])

    def test_lesser_fields(self):
        for field, a in WITHIN:
            self.assertEqual(whole(field, a), [0, 1], (field, a))
            for factor in (2, 3, 1000):
                bigger = [factor * n for n in a[:-1]] + a[-1:]
                self.assertEqual(whole(field, bigger), [0, 1], (field, a))
            smaller = a[:-1] + [7 * a[-1]]
            self.assertEqual(whole(field, smaller), [0, int(is_whole(field, smaller))], (field, a))
            self.assertEqual(whole(field, smaller), [0, 0], (field, a))

    def test_sums_and_products_of_whole_numbers_are_whole(self):
        for field in ([-5, 0], [-10, 0, 0], [-8, -2, -1], [1, 0, -10, 0], [-20, 0, 0, 0], [-5, 0, 0, 0]):
            rows = [a for f, a in WHOLE_ALL_THE_SAME if f == field]
            rows += [[3, 1] + [0] * (len(field) - 2) + [1], [-2] + [1] * (len(field) - 1) + [1]]
            for a in rows:
                for b in rows:
                    for answer in (plus(field, a, b), minus(field, a, b), times(field, a, b), power(5, field, a)):
                        self.assertEqual(whole(field, answer[1:]), [0, 1])

    def test_roots_of_polynomials_with_1_in_front_are_whole(self):
        # The square of a number is whole just when the number is.
        for field, places in FIELDS:
            for a in numbers_of(field):
                self.assertEqual(whole(field, power(2, field, a)[1:]), whole(field, a))

    def test_rows_of_the_same_number(self):
        for field, a in WHOLE_ALL_THE_SAME + NOT_WHOLE:
            for factor in (2, 30, 10 ** 15):
                self.assertEqual(whole(field, [factor * n for n in a]), whole(field, a))


class RefusalTest(unittest.TestCase):

    def test_no_numbers(self):
        for field in ONE_EACH + ([1, 0], [1, 0, 0, 0]):
            for a in rows_that_are_none(len(field)):
                self.assertEqual(whole(field, a), [-9], (field, a))

    def test_no_fields(self):
        for refusal, fields in [(-1, NO_FIELDS), (-2, PRODUCTS)]:
            for field in fields:
                for a in ([1] * (len(field) + 1), [0] * len(field) + [1], [], [0], [BIG] * 10):
                    self.assertEqual(whole(field, a), [refusal], (field, a))

    def test_first_refusal_counts(self):
        self.assertEqual(whole([0, 1001], [1]), [-1])
        self.assertEqual(whole([0, 1000], [1]), [-2])
        self.assertEqual(whole([3, 1000], [1]), [-9])
        self.assertEqual(whole([3, 1000], [1, 1, 0]), [-9])

    def test_what_is_handed_in_stays(self):
        for field, a in [([-2, 0], [6, -4, 2]), ([-2, 0], [0, 0, 4]), ([-2, 0], [1]), ([0, 0], [1, 1, 1]), ([], []),
                         ([-5], [6, 4]), ([1, -3, 0], [2, 4, 6, 8]), ([1, 0, -10, 0], [2, 0, 6, 0, 10])]:
            given = (Fixed(field), Fixed(a))
            first = whole(*given)
            kept = list(first)
            self.assertEqual([list(g) for g in given], [field, a])
            first.append(99)
            self.assertEqual(whole(*given), kept)

    def test_kinds(self):
        for field, a in [([-2, 0], [6, -4, 2]), ([-2, 0], [6, -4, 5]), ([-5], [1, 1]), ([-2, 0], [1]), ([0, 0], []),
                         ([], [])]:
            answer = whole(field, a)
            self.assertIs(type(answer), list)
            self.assertTrue(all(type(n) is int for n in answer))


if __name__ == "__main__":
    unittest.main()
