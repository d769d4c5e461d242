"""power: powers of a number, above and below 0."""

import unittest

from rootrows.numbers import over, power, row, times
from samples import BIG, FIELDS, Fixed, NO_FIELDS, ONE_EACH, PRODUCTS, rows_for, rows_that_are_none

TOO_FAR = (-BIG, 1 - BIG, -2 ** 32, -100, -22, -21, 21, 22, 100, 2 ** 32, BIG - 1, BIG)


class PowerTest(unittest.TestCase):

    def test_written_out(self):
        for k, field, a, answer in [
            (2, [-5], [2, 3], [0, 4, 9]),
            (-2, [-5], [2, 3], [0, 9, 4]),
            (-3, [-5], [-2, 3], [0, -27, 8]),
            (20, [-5], [-2, 1], [0, 2 ** 20, 1]),
            (0, [-2, 0], [3, 4, 5], [0, 1, 0, 1]),
            (1, [-2, 0], [4, 6, 8], [0, 2, 3, 4]),
            (-1, [-2, 0], [1, 1, 1], [0, -1, 1, 1]),
            (-2, [-2, 0], [1, 1, 1], [0, 3, -2, 1]),
            (20, [-2, 0], [0, 1, 1], [0, 1024, 0, 1]),
            (-20, [-2, 0], [0, 1, 1], [0, 1, 0, 1024]),
            (19, [-2, 0], [0, 1, 2], [0, 0, 1, 1024]),
            (20, [-1, -1], [0, 1, 1], [0, 4181, 6765, 1]),
            (-20, [-1, -1], [0, 1, 1], [0, 10946, -6765, 1]),
            (20, [-5, 0], [1, 1, 2], [0, 15127, 6765, 2]),
            (20, [-2, 0, 0], [0, 1, 0, 1], [0, 0, 0, 64, 1]),
            (-20, [-2, 0, 0], [0, 1, 0, 1], [0, 0, 1, 0, 128]),
            (10, [1, 0, 0, 0], [0, 1, 0, 0, 1], [0, 0, 0, 1, 0, 1]),
            (-20, [1, 1, 1, 1], [0, 0, 1, 0, 1], [0, 1, 0, 0, 0, 1]),
            (20, [1, 0], [BIG, 0, 1], [0, BIG ** 20, 0, 1]),
            (-20, [1, 0], [BIG, 0, 1], [0, 1, 0, BIG ** 20]),
            (20, [1, 0], [0, BIG - 1, BIG], [0, (BIG - 1) ** 20, 0, BIG ** 20]),
        ]:
            with self.subTest(k=k, field=field, a=a):
                self.assertEqual(power(k, field, a), answer)

    def test_k_factors(self):
        for field, places in FIELDS:
            d = len(field)
            one = [1] + [0] * (d - 1) + [1]
            for a in rows_for(d):
                self.assertEqual(power(0, field, a), [0] + one)
                self.assertEqual(power(1, field, a), row(field, a))
                product = one
                for k in range(1, 21):
                    product = times(field, product, a)[1:]
                    self.assertEqual(power(k, field, a), [0] + product, (k, field, a))

    def test_k_factors_below_0(self):
        for field, places in FIELDS:
            d = len(field)
            one = [1] + [0] * (d - 1) + [1]
            for a in rows_for(d):
                if any(a[:-1]):
                    inverse = over(field, one, a)[1:]
                    product = one
                    for k in range(1, 21):
                        product = times(field, product, inverse)[1:]
                        self.assertEqual(power(-k, field, a), [0] + product, (k, field, a))

    def test_powers_of_0(self):
        for field in ONE_EACH:
            d = len(field)
            for last in (1, 8, BIG):
                zero = [0] * d + [last]
                self.assertEqual(power(0, field, zero), [0, 1] + [0] * (d - 1) + [1])
                for k in (1, 2, 19, 20):
                    self.assertEqual(power(k, field, zero), [0] + [0] * d + [1])
                for k in (-1, -2, -19, -20):
                    self.assertEqual(power(k, field, zero), [-5])

    def test_too_far(self):
        for field in ONE_EACH:
            d = len(field)
            for k in TOO_FAR:
                for a in ([1] * (d + 1), [0] * d + [1], [BIG] * (d + 1)):
                    self.assertEqual(power(k, field, a), [-3], (k, field, a))

    def test_no_numbers(self):
        for field in ONE_EACH:
            for a in rows_that_are_none(len(field)):
                for k in (0, 1, -1, 20, -20) + TOO_FAR:
                    self.assertEqual(power(k, field, a), [-9], (k, field, a))

    def test_no_fields(self):
        for refusal, fields in [(-1, NO_FIELDS), (-2, PRODUCTS)]:
            for field in fields:
                for a in ([1] * (len(field) + 1), [0] * len(field) + [1], [], [1] * 10):
                    for k in (0, 2, -1, 21, -BIG):
                        self.assertEqual(power(k, field, a), [refusal], (k, field, a))

    def test_first_refusal_counts(self):
        self.assertEqual(power(-21, [0, 1001], [0, 0, 0]), [-1])
        self.assertEqual(power(-21, [0, 1000], [0, 0, 0]), [-2])
        self.assertEqual(power(-21, [3, 1000], [0, 0, 0]), [-9])
        self.assertEqual(power(-21, [3, 1000], [0, 0, 1]), [-3])
        self.assertEqual(power(-20, [3, 1000], [0, 0, 1]), [-5])

    def test_what_is_handed_in_stays(self):
        for k, field, a in [(3, [-2, 0], [6, -4, 2]), (0, [-2, 0], [6, -4, 2]), (1, [-2, 0], [6, -4, 2]),
                            (-3, [1, 0, 0, 0], [6, -4, 2, 8, 2]), (-1, [-2, 0], [0, 0, 1]), (21, [-2, 0], [1, 1, 1]),
                            (1, [-2, 0], [1]), (1, [0, 0], [1, 1, 1]), (1, [], [1])]:
            given = (Fixed(field), Fixed(a))
            first = power(k, *given)
            kept = list(first)
            self.assertEqual([list(g) for g in given], [field, a])
            first.append(99)
            self.assertEqual(power(k, *given), kept)

    def test_kinds(self):
        for k, field, a in [(3, [-2, 0], [6, -4, 2]), (0, [-2, 0], [6, -4, 2]), (-3, [-2, 0], [1, 1, 1]),
                            (-1, [-2, 0], [0, 0, 1]), (21, [-2, 0], [1, 1, 1]), (1, [], [])]:
            answer = power(k, field, a)
            self.assertIs(type(answer), list)
            self.assertTrue(all(type(n) is int for n in answer))


if __name__ == "__main__":
    unittest.main()
