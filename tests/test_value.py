"""value: a polynomial with rows in front of its powers, at a number."""

import unittest

from rootrows.numbers import plus, power, row, times, value
from samples import (BIG, FIELDS, Fixed, NO_FIELDS, ONE_EACH, PRODUCTS, fractions_of, one_behind_another,
                     product_of_fractions, row_of, rows_for, rows_that_are_none)


class ValueTest(unittest.TestCase):

    def test_written_out(self):
        for field, rows, x, answer in [
            ([-5], [], [3, 4], [0, 0, 1]),
            ([-5], [6, 4], [7, 1], [0, 3, 2]),
            ([-5], [1, 1, 1, 2, 1, 3], [2, 1], [0, 10, 3]),
            ([-2, 0], [], [3, 4, 5], [0, 0, 0, 1]),
            ([-2, 0], [2, 4, 6], [3, 4, 5], [0, 1, 2, 3]),
            ([-2, 0], [0, 0, 1, 1, 0, 1], [4, 6, 8], [0, 2, 3, 4]),
            ([-2, 0], [-2, 0, 1, 0, 0, 1, 1, 0, 1], [0, 1, 1], [0, 0, 0, 1]),
            ([-2, 0], [1, 0, 1, 0, 1, 1], [0, 1, 1], [0, 3, 0, 1]),
            ([-2, 0], [1, 0, 2, 0, 1, 3], [1, 1, 1], [0, 7, 2, 6]),
            ([-2, 0, 0], [0, 0, 0, 1] * 3 + [1, 0, 0, 1], [0, 1, 0, 1], [0, 2, 0, 0, 1]),
            ([1, 0, 0, 0], [0, 0, 0, 0, 1] * 7 + [1, 0, 0, 0, 1], [0, 1, 0, 0, 1], [0, 0, 0, 0, -1, 1]),
            ([1, 0], [1, 0, 1] * 8, [0, 1, 1], [0, 0, 0, 1]),
            ([1, 0], [1, 0, 1] * 7, [0, 1, 1], [0, 0, 1, 1]),
            ([1, 0], [0, 0, 1] * 7 + [BIG, 0, 1], [BIG, 0, 1], [0, BIG ** 8, 0, 1]),
            ([1, 0], [0, 0, 1] * 7 + [1, 0, BIG], [1, 0, BIG], [0, 1, 0, BIG ** 8]),
        ]:
            with self.subTest(field=field, rows=rows, x=x):
                self.assertEqual(value(field, rows, x), answer)

    def test_step_by_step(self):
        for field, places in FIELDS:
            d = len(field)
            samples = rows_for(d)
            for k, x in enumerate(samples):
                for count in range(9):
                    rows = (samples[k:] + samples)[:count]
                    total = [0] * d + [1]
                    factor = [1] + [0] * (d - 1) + [1]
                    for numbers in rows:
                        total = plus(field, total, times(field, numbers, factor)[1:])[1:]
                        factor = times(field, factor, x)[1:]
                    self.assertEqual(value(field, one_behind_another(rows), x), [0] + total, (field, rows, x))

    def test_against_fractions(self):
        for field in ONE_EACH:
            d = len(field)
            rows = rows_for(d)[3:11]
            for x in rows_for(d):
                total = [0] * d
                for numbers in reversed(rows):
                    total = product_of_fractions(field, total, fractions_of(x))
                    total = [m + n for m, n in zip(total, fractions_of(numbers))]
                self.assertEqual(value(field, one_behind_another(rows), x), [0] + row_of(total), (field, x))

    def test_last_row_alone_is_a_power(self):
        for field in ONE_EACH:
            d = len(field)
            for x in rows_for(d):
                for k in range(8):
                    rows = ([0] * d + [1]) * k + [1] + [0] * (d - 1) + [1]
                    self.assertEqual(value(field, rows, x), power(k, field, x))

    def test_no_rows(self):
        for field, places in FIELDS:
            d = len(field)
            for x in rows_for(d):
                self.assertEqual(value(field, [], x), [0] + [0] * d + [1])

    def test_lengths(self):
        for field in ONE_EACH:
            d = len(field)
            x = [1] * (d + 1)
            for length in range(61):
                if length > 8 * (d + 1):
                    asked = -3
                else:
                    asked = -9 if length % (d + 1) else 0
                with self.subTest(field=field, length=length):
                    self.assertEqual(value(field, [1] * length, x)[0], asked)

    def test_last_numbers_of_rows(self):
        for field in ONE_EACH:
            d = len(field)
            x = [1] * (d + 1)
            for k in range(8):
                for last in (0, -1, -BIG):
                    rows = [[1] * (d + 1) for i in range(8)]
                    rows[k][-1] = last
                    self.assertEqual(value(field, one_behind_another(rows), x), [-9])
                    self.assertEqual(value(field, one_behind_another(rows[:k + 1]), x), [-9])
                    self.assertEqual(value(field, one_behind_another(rows[:k]), x)[0], 0)

    def test_x_is_no_number(self):
        for field in ONE_EACH:
            d = len(field)
            for x in rows_that_are_none(d):
                for rows in ([], [1] * (d + 1), [1] * (8 * (d + 1)), [1] * (d + 2), [1]):
                    self.assertEqual(value(field, rows, x), [-9], (field, rows, x))

    def test_no_fields(self):
        for refusal, fields in [(-1, NO_FIELDS), (-2, PRODUCTS)]:
            for field in fields:
                for rows in ([], [1] * (len(field) + 1), [1], [0] * 60):
                    for x in ([1] * (len(field) + 1), [], [BIG] * 10):
                        self.assertEqual(value(field, rows, x), [refusal], (field, rows, x))

    def test_first_refusal_counts(self):
        self.assertEqual(value([0, 1001], [0] * 25, []), [-1])
        self.assertEqual(value([0, 1000], [0] * 25, []), [-2])
        self.assertEqual(value([3, 1000], [0] * 25, []), [-3])
        self.assertEqual(value([3, 1000], [0] * 27, []), [-3])
        self.assertEqual(value([3, 1000], [0] * 24, []), [-9])
        self.assertEqual(value([3, 1000], [0] * 23, [1, 1, 1]), [-9])

    def test_what_is_handed_in_stays(self):
        for field, rows, x in [([-2, 0], [6, -4, 2, 1, 1, 1], [2, 4, 6]), ([-2, 0], [], [2, 4, 6]),
                               ([-2, 0], [6, -4, 2], [2, 4, 6]), ([-2, 0], [6, -4], [2, 4, 6]), ([-2, 0], [], [1]),
                               ([-2, 0], [1] * 25, [1]), ([0, 0], [], []), ([], [], []),
                               ([1, 0, 0, 0], [2, 4, 6, 8, 10] * 8, [3, 6, 9, 12, 15])]:
            given = (Fixed(field), Fixed(rows), Fixed(x))
            first = value(*given)
            kept = list(first)
            self.assertEqual([list(g) for g in given], [field, rows, x])
            first.append(99)
            self.assertEqual(value(*given), kept)

    def test_one_list_handed_in_twice(self):
        a = Fixed([6, -4, 4])
        self.assertEqual(value([-2, 0], a, a), row([-2, 0], a))
        self.assertEqual(list(a), [6, -4, 4])

    def test_kinds(self):
        for field, rows, x in [([-2, 0], [6, -4, 2], [1, 1, 1]), ([-2, 0], [], [1, 1, 1]), ([-2, 0], [1], []),
                               ([-2, 0], [1] * 60, []), ([], [], [])]:
            answer = value(field, rows, x)
            self.assertIs(type(answer), list)
            self.assertTrue(all(type(n) is int for n in answer))


if __name__ == "__main__":
    unittest.main()
