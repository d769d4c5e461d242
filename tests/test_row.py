"""row: the one form of a number."""

import unittest

from rootrows.numbers import row
from samples import BIG, FIELDS, Fixed, NO_FIELDS, PRODUCTS, fractions_of, row_of, rows_for, rows_that_are_none


class RowTest(unittest.TestCase):

    def test_written_out(self):
        for field, a, answer in [
            ([-5], [4, 6], [0, 2, 3]),
            ([-5], [-4, 2], [0, -2, 1]),
            ([0], [0, 9], [0, 0, 1]),
            ([-2, 0], [1, 1, 1], [0, 1, 1, 1]),
            ([-2, 0], [2, 4, 6], [0, 1, 2, 3]),
            ([-2, 0], [2, 4, 5], [0, 2, 4, 5]),
            ([-2, 0], [3, 4, 6], [0, 3, 4, 6]),
            ([-2, 0], [-3, 9, 6], [0, -1, 3, 2]),
            ([-2, 0], [-3, -9, 3], [0, -1, -3, 1]),
            ([-2, 0], [0, 0, 5], [0, 0, 0, 1]),
            ([-2, 0], [0, -10, 4], [0, 0, -5, 2]),
            ([-2, 0, 0], [6, 10, 15, 30], [0, 6, 10, 15, 30]),
            ([-2, 0, 0], [12, 20, 30, 60], [0, 6, 10, 15, 30]),
            ([1, 0, 0, 0], [0, 0, 0, -7, 21], [0, 0, 0, 0, -1, 3]),
            ([1, 0, 0, 0], [BIG, -BIG, 0, BIG, BIG], [0, 1, -1, 0, 1, 1]),
            ([1, 0, 0, 0], [BIG, -BIG, 0, BIG, BIG - 1], [0, BIG, -BIG, 0, BIG, BIG - 1]),
        ]:
            with self.subTest(field=field, a=a):
                self.assertEqual(row(field, a), answer)

    def test_one_form_of_all_samples(self):
        for field, places in FIELDS:
            for a in rows_for(len(field)):
                with self.subTest(field=field, a=a):
                    self.assertEqual(row(field, a), [0] + row_of(fractions_of(a)))

    def test_multiples_have_the_same_form(self):
        for factor in (1, 2, 3, 30, 10 ** 17):
            self.assertEqual(row([-1, -1], [factor * 3, -factor * 2, factor * 5]), [0, 3, -2, 5])

    def test_no_number(self):
        for field, places in FIELDS:
            for a in rows_that_are_none(len(field)):
                with self.subTest(field=field, a=a):
                    self.assertEqual(row(field, a), [-9])

    def test_products(self):
        for field in PRODUCTS:
            for a in [[1] * (len(field) + 1), [], [0] * (len(field) + 1), [1] * 10]:
                with self.subTest(field=field, a=a):
                    self.assertEqual(row(field, a), [-2])

    def test_no_fields(self):
        for field in NO_FIELDS:
            for a in [[1] * (len(field) + 1), [], [1] * len(field) + [0], [BIG] * 10]:
                with self.subTest(field=field, a=a):
                    self.assertEqual(row(field, a), [-1])

    def test_first_refusal_counts(self):
        self.assertEqual(row([0, 1001], [1]), [-1])
        self.assertEqual(row([0, 1000], [1]), [-2])
        self.assertEqual(row([3, 1000], [1]), [-9])

    def test_what_is_handed_in_stays(self):
        for field, a in [([-2, 0], [6, -4, 2]), ([-2, 0], [1, 2, 1]), ([-2, 0], [1, 2]), ([0, 0], [2, 2, 2]),
                         ([], [2, 2]), ([1, 0, 0, 0], [0, 0, 0, 0, 7])]:
            given = (Fixed(field), Fixed(a))
            first = row(*given)
            kept = list(first)
            self.assertEqual((list(given[0]), list(given[1])), (field, a))
            first.append(99)
            self.assertEqual(row(*given), kept)

    def test_kinds(self):
        for field, a in [([-2, 0], [6, -4, 2]), ([-2, 0], [0, 0, 1]), ([-2, 0], []), ([], [])]:
            answer = row(field, a)
            self.assertIs(type(answer), list)
            self.assertTrue(all(type(n) is int for n in answer))


if __name__ == "__main__":
    unittest.main()
