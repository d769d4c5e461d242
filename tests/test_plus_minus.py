"""plus and minus: sums and differences in their one form."""

import unittest

from rootrows.numbers import minus, plus, row
from samples import (BIG, FIELDS, Fixed, NO_FIELDS, ONE_EACH, PRODUCTS, fractions_of, row_of, rows_for,
                     rows_that_are_none)

CALLS = (plus, minus)


class PlusMinusTest(unittest.TestCase):

    def test_written_out(self):
        for field, a, b, together, less in [
            ([-5], [1, 2], [1, 3], [0, 5, 6], [0, 1, 6]),
            ([-5], [1, 2], [1, 2], [0, 1, 1], [0, 0, 1]),
            ([-2, 0], [1, 1, 1], [1, -1, 1], [0, 2, 0, 1], [0, 0, 2, 1]),
            ([-2, 0], [1, 2, 4], [1, 2, 4], [0, 1, 2, 2], [0, 0, 0, 1]),
            ([-2, 0], [2, 4, 6], [-1, -2, 3], [0, 0, 0, 1], [0, 2, 4, 3]),
            ([-2, 0], [1, 0, 6], [0, 1, 10], [0, 5, 3, 30], [0, 5, -3, 30]),
            ([-2, 0], [1, 0, 6], [1, 0, 10], [0, 4, 0, 15], [0, 1, 0, 15]),
            ([-2, 0], [0, 0, 7], [0, 0, 3], [0, 0, 0, 1], [0, 0, 0, 1]),
            ([-2, 0, 0], [1, 2, 3, 2], [3, 2, 1, 2], [0, 2, 2, 2, 1], [0, -1, 0, 1, 1]),
            ([1, 0, 0, 0], [-1, 2, -3, 4, 5], [1, -2, 3, -4, 5], [0, 0, 0, 0, 0, 1], [0, -2, 4, -6, 8, 5]),
            ([1, 0], [BIG, -BIG, 1], [BIG, BIG, 1], [0, 2 * BIG, 0, 1], [0, 0, -2 * BIG, 1]),
            ([1, 0], [1, 0, BIG], [0, 1, BIG - 1],
             [0, BIG - 1, BIG, BIG * (BIG - 1)], [0, BIG - 1, -BIG, BIG * (BIG - 1)]),
        ]:
            with self.subTest(field=field, a=a, b=b):
                self.assertEqual(plus(field, a, b), together)
                self.assertEqual(minus(field, a, b), less)

    def test_all_samples(self):
        for field, places in FIELDS:
            for a in rows_for(len(field)):
                for b in rows_for(len(field)):
                    pairs = list(zip(fractions_of(a), fractions_of(b)))
                    self.assertEqual(plus(field, a, b), [0] + row_of([m + n for m, n in pairs]), (field, a, b))
                    self.assertEqual(minus(field, a, b), [0] + row_of([m - n for m, n in pairs]), (field, a, b))

    def test_sums_are_a_fields(self):
        for field in ONE_EACH:
            d = len(field)
            zero = [0] * d + [1]
            rows = [a for a in rows_for(d) if max(abs(n) for n in a) <= 1000]
            for a in rows:
                self.assertEqual(plus(field, a, zero), row(field, a))
                self.assertEqual(plus(field, zero, a), row(field, a))
                self.assertEqual(minus(field, a, zero), row(field, a))
                self.assertEqual(minus(field, a, a), [0] + zero)
                self.assertEqual(plus(field, minus(field, zero, a)[1:], a), [0] + zero)
                for b in rows:
                    total = plus(field, a, b)
                    self.assertEqual(total, plus(field, b, a))
                    self.assertEqual(minus(field, total[1:], b), row(field, a))
                    for c in rows:
                        self.assertEqual(plus(field, total[1:], c), plus(field, a, plus(field, b, c)[1:]))

    def test_no_numbers(self):
        for field in ONE_EACH:
            d = len(field)
            good = [1] * d + [2]
            for a in rows_that_are_none(d):
                for call in CALLS:
                    with self.subTest(call=call.__name__, field=field, a=a):
                        self.assertEqual(call(field, a, good), [-9])
                        self.assertEqual(call(field, good, a), [-9])
                        self.assertEqual(call(field, a, a), [-9])

    def test_two_last_numbers_below_0_do_not_make_up_for_one_another(self):
        for call in CALLS:
            self.assertEqual(call([-2, 0], [1, 1, -1], [1, 1, -1]), [-9])

    def test_products(self):
        for field in PRODUCTS:
            good = [1] * (len(field) + 1)
            for call in CALLS:
                for a, b in [(good, good), ([], good), (good, [1]), ([0] * (len(field) + 1), [])]:
                    self.assertEqual(call(field, a, b), [-2], (field, a, b))

    def test_no_fields(self):
        for field in NO_FIELDS:
            good = [1] * (len(field) + 1)
            for call in CALLS:
                for a, b in [(good, good), ([], good), (good, []), ([BIG] * 10, [0])]:
                    self.assertEqual(call(field, a, b), [-1], (field, a, b))

    def test_first_refusal_counts(self):
        for call in CALLS:
            self.assertEqual(call([0, 1001], [1], [1, 1, 0]), [-1])
            self.assertEqual(call([0, 1000], [1], [1, 1, 0]), [-2])
            self.assertEqual(call([3, 1000], [1], [1, 1, 0]), [-9])

    def test_what_is_handed_in_stays(self):
        for field, a, b in [([-2, 0], [6, -4, 2], [1, 1, 3]), ([-2, 0], [1, 2], [1, 1, 1]), ([0, 0], [1, 1, 1], []),
                            ([], [2, 2], [1]), ([1, 0, 0, 0], [0, 0, 0, 0, 7], [1, 2, 3, 4, 5])]:
            for call in CALLS:
                given = (Fixed(field), Fixed(a), Fixed(b))
                first = call(*given)
                kept = list(first)
                self.assertEqual([list(g) for g in given], [field, a, b])
                first.append(99)
                self.assertEqual(call(*given), kept)

    def test_one_list_handed_in_twice(self):
        a = Fixed([6, -4, 4])
        self.assertEqual(plus([-2, 0], a, a), [0, 3, -2, 1])
        self.assertEqual(minus([-2, 0], a, a), [0, 0, 0, 1])
        self.assertEqual(list(a), [6, -4, 4])

    def test_kinds(self):
        for call in CALLS:
            for field, a, b in [([-2, 0], [6, -4, 2], [1, 1, 1]), ([-2, 0], [], []), ([0, 0], [], []), ([], [], [])]:
                answer = call(field, a, b)
                self.assertIs(type(answer), list)
                self.assertTrue(all(type(n) is int for n in answer))


if __name__ == "__main__":
    unittest.main()
