"""times and over: products and quotients in their one form."""

import unittest
from math import gcd

from rootrows.numbers import minus, over, plus, row, times
from samples import (BIG, FIELDS, Fixed, NO_FIELDS, ONE_EACH, PRODUCTS, fractions_of, product_of_fractions, row_of,
                     rows_for, rows_that_are_none)

CALLS = (times, over)


def is_one_form(numbers):
    return numbers[-1] > 0 and gcd(*numbers) == 1


class TimesOverTest(unittest.TestCase):

    def test_written_out_products(self):
        for field, a, b, answer in [
            ([-5], [2, 3], [3, 4], [0, 1, 2]),
            ([-5], [-2, 3], [5, 1], [0, -10, 3]),
            ([0], [7, 1], [0, 9], [0, 0, 1]),
            ([-2, 0], [0, 1, 1], [0, 1, 1], [0, 2, 0, 1]),
            ([-2, 0], [1, 1, 1], [1, -1, 1], [0, -1, 0, 1]),
            ([-2, 0], [1, 1, 2], [2, 1, 3], [0, 4, 3, 6]),
            ([-2, 0], [0, 2, 3], [0, 3, 4], [0, 1, 0, 1]),
            ([1, 0], [0, 1, 1], [0, 1, 1], [0, -1, 0, 1]),
            ([-1, -1], [0, 1, 1], [0, 1, 1], [0, 1, 1, 1]),
            ([-5, 0], [1, 1, 2], [1, 1, 2], [0, 3, 1, 2]),
            ([-5, 0], [1, 1, 2], [1, -1, 1], [0, -2, 0, 1]),
            ([-2, 0, 0], [0, 1, 0, 1], [0, 0, 1, 1], [0, 2, 0, 0, 1]),
            ([-2, 0, 0], [0, 0, 1, 1], [0, 0, 1, 1], [0, 0, 2, 0, 1]),
            ([1, -3, 0], [0, 0, 1, 1], [0, 0, 1, 1], [0, 0, -1, 3, 1]),
            ([1, 1, 1, 1], [0, 0, 0, 1, 1], [0, 0, 0, 1, 1], [0, 0, 1, 0, 0, 1]),
            ([1, 0, 0, 0], [0, 0, 0, 1, 1], [0, 0, 0, 1, 1], [0, 0, 0, -1, 0, 1]),
            ([1000, 1000, 1000, 1000], [0, 0, 0, 1, 1], [0, 1, 0, 0, 1], [0, -1000, -1000, -1000, -1000, 1]),
            ([-2, 0], [BIG, BIG, 1], [BIG, -BIG, 1], [0, -BIG * BIG, 0, 1]),
            ([-2, 0], [1, 0, BIG], [0, 1, BIG], [0, 0, 1, BIG * BIG]),
        ]:
            with self.subTest(field=field, a=a, b=b):
                self.assertEqual(times(field, a, b), answer)
                self.assertEqual(times(field, b, a), answer)

    def test_written_out_quotients(self):
        for field, a, b, answer in [
            ([-5], [2, 3], [4, 3], [0, 1, 2]),
            ([-5], [2, 3], [-4, 3], [0, -1, 2]),
            ([0], [0, 9], [7, 1], [0, 0, 1]),
            ([-2, 0], [1, 0, 1], [0, 1, 1], [0, 0, 1, 2]),
            ([-2, 0], [1, 0, 1], [1, 1, 1], [0, -1, 1, 1]),
            ([-2, 0], [1, 0, 1], [3, 1, 1], [0, 3, -1, 7]),
            ([-2, 0], [1, 0, 1], [-3, -1, 1], [0, -3, 1, 7]),
            ([-2, 0], [1, 0, 1], [6, 0, 5], [0, 5, 0, 6]),
            ([-2, 0], [1, 1, 2], [2, 2, 3], [0, 3, 0, 4]),
            ([1, 0], [1, 0, 1], [0, 1, 1], [0, 0, -1, 1]),
            ([-1, -1], [1, 0, 1], [0, 1, 1], [0, -1, 1, 1]),
            ([-2, 0, 0], [1, 0, 0, 1], [0, 1, 0, 1], [0, 0, 0, 1, 2]),
            ([-2, 0, 0], [1, 0, 0, 1], [1, 1, 1, 1], [0, -1, 1, 0, 1]),
            ([1, 0, 0, 0], [1, 0, 0, 0, 1], [0, 1, 0, 0, 1], [0, 0, 0, 0, -1, 1]),
            ([1, 1, 1, 1], [1, 0, 0, 0, 1], [0, 1, 0, 0, 1], [0, -1, -1, -1, -1, 1]),
            ([1, 0], [BIG, 0, 1], [0, 1, BIG], [0, 0, -BIG * BIG, 1]),
            ([-2, 0], [0, 0, 1], [BIG, -BIG, BIG], [0, 0, 0, 1]),
        ]:
            with self.subTest(field=field, a=a, b=b):
                self.assertEqual(over(field, a, b), answer)

    def test_all_samples(self):
        for field, places in FIELDS:
            for a in rows_for(len(field)):
                for b in rows_for(len(field)):
                    product = product_of_fractions(field, fractions_of(a), fractions_of(b))
                    self.assertEqual(times(field, a, b), [0] + row_of(product), (field, a, b))
                    answer = over(field, a, b)
                    if not any(b[:-1]):
                        self.assertEqual(answer, [-5], (field, a, b))
                        continue
                    self.assertEqual((answer[0], len(answer)), (0, len(field) + 2))
                    self.assertTrue(is_one_form(answer[1:]), (field, a, b))
                    product = product_of_fractions(field, fractions_of(answer[1:]), fractions_of(b))
                    self.assertEqual(product, fractions_of(a), (field, a, b))

    def test_products_are_a_fields(self):
        for field in ONE_EACH:
            d = len(field)
            one = [1] + [0] * (d - 1) + [1]
            rows = [a for a in rows_for(d) if max(abs(n) for n in a) <= 1000]
            for a in rows:
                self.assertEqual(times(field, a, one), row(field, a))
                self.assertEqual(over(field, a, one), row(field, a))
                if any(a[:-1]):
                    self.assertEqual(times(field, a, over(field, one, a)[1:]), [0] + one)
                    self.assertEqual(over(field, a, a), [0] + one)
                for b in rows:
                    product = times(field, a, b)
                    self.assertEqual(product, times(field, b, a))
                    if any(b[:-1]):
                        self.assertEqual(over(field, product[1:], b), row(field, a))
                        self.assertEqual(over(field, a, b), times(field, a, over(field, one, b)[1:]))
                    for c in rows:
                        self.assertEqual(times(field, product[1:], c), times(field, a, times(field, b, c)[1:]))
                        self.assertEqual(times(field, a, plus(field, b, c)[1:]),
                                         plus(field, product[1:], times(field, a, c)[1:]))
                        self.assertEqual(times(field, a, minus(field, b, c)[1:]),
                                         minus(field, product[1:], times(field, a, c)[1:]))

    def test_x_is_a_root(self):
        for field, places in FIELDS:
            d = len(field)
            x = ([-field[0]] if d == 1 else [0, 1] + [0] * (d - 2)) + [1]
            total = [1] + [0] * (d - 1) + [1]
            for c in reversed(field):
                total = plus(field, times(field, total, x)[1:], [c] + [0] * (d - 1) + [1])[1:]
            self.assertEqual(total, [0] * d + [1], field)

    def test_over_0(self):
        for field, places in FIELDS:
            d = len(field)
            for last in (1, 6, BIG):
                for a in rows_for(d):
                    self.assertEqual(over(field, a, [0] * d + [last]), [-5])

    def test_no_numbers(self):
        for field in ONE_EACH:
            d = len(field)
            good = [1] * d + [2]
            zero = [0] * d + [2]
            for a in rows_that_are_none(d):
                for call in CALLS:
                    with self.subTest(call=call.__name__, field=field, a=a):
                        self.assertEqual(call(field, a, good), [-9])
                        self.assertEqual(call(field, good, a), [-9])
                        self.assertEqual(call(field, a, zero), [-9])
                        self.assertEqual(call(field, a, a), [-9])

    def test_products_that_are_no_fields(self):
        for field in PRODUCTS:
            good = [1] * (len(field) + 1)
            zero = [0] * len(field) + [1]
            for call in CALLS:
                for a, b in [(good, good), (good, zero), ([], good), (good, [1]), ([0] * (len(field) + 1), [])]:
                    self.assertEqual(call(field, a, b), [-2], (field, a, b))

    def test_no_fields(self):
        for field in NO_FIELDS:
            good = [1] * (len(field) + 1)
            for call in CALLS:
                for a, b in [(good, good), ([], good), (good, []), ([BIG] * 10, [0])]:
                    self.assertEqual(call(field, a, b), [-1], (field, a, b))

    def test_first_refusal_counts(self):
        for call in CALLS:
            self.assertEqual(call([0, 1001], [1], [0, 0, 1]), [-1])
            self.assertEqual(call([0, 1000], [1], [0, 0, 1]), [-2])
            self.assertEqual(call([3, 1000], [1], [0, 0, 1]), [-9])
            self.assertEqual(call([3, 1000], [1, 1, 1], [0, 0, 0]), [-9])
        self.assertEqual(over([3, 1000], [1, 1, 1], [0, 0, 1]), [-5])

    def test_what_is_handed_in_stays(self):
        for field, a, b in [([-2, 0], [6, -4, 2], [1, 1, 3]), ([-2, 0], [1, 2], [1, 1, 1]), ([0, 0], [1, 1, 1], []),
                            ([], [2, 2], [1]), ([1, 0, 0, 0], [0, 0, 0, 0, 7], [1, 2, 3, 4, 5]),
                            ([-5], [3, 4], [6, 4]), ([1, -3, 0], [1, 2, 3, 4], [0, 0, 0, 4])]:
            for call in CALLS:
                given = (Fixed(field), Fixed(a), Fixed(b))
                first = call(*given)
                kept = list(first)
                self.assertEqual([list(g) for g in given], [field, a, b])
                first.append(99)
                self.assertEqual(call(*given), kept)

    def test_one_list_handed_in_twice(self):
        a = Fixed([6, -4, 4])
        self.assertEqual(times([-2, 0], a, a), [0, 17, -12, 4])
        self.assertEqual(over([-2, 0], a, a), [0, 1, 0, 1])
        self.assertEqual(list(a), [6, -4, 4])

    def test_kinds(self):
        for call in CALLS:
            for field, a, b in [([-2, 0], [6, -4, 2], [1, 1, 1]), ([-2, 0], [6, -4, 2], [0, 0, 1]),
                                ([-5], [1, 1], [2, 1]), ([-2, 0], [], []), ([0, 0], [], []), ([], [], [])]:
                answer = call(field, a, b)
                self.assertIs(type(answer), list)
                self.assertTrue(all(type(n) is int for n in answer))


if __name__ == "__main__":
    unittest.main()
