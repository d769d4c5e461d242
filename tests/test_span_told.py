"""span and told: rows that depend on one another, and numbers as sums of rows times fractions."""

import unittest
from fractions import Fraction
from itertools import combinations
from math import gcd
from random import Random

from maps import combined, rank_of
from rootrows.numbers import plus, row, span, times, told
from samples import (BIG, FIELDS, Fixed, NO_FIELDS, ONE_EACH, PRODUCTS, fractions_of, one_behind_another, row_of,
                     rows_for, rows_that_are_none)


def units(d):
    """The rows of 1, x, ..., x^(d-1)."""
    return [[int(i == k) for i in range(d)] + [1] for k in range(d)]


def sum_of(field, factors, rows):
    """The row of the rows times the fractions."""
    return row_of(combined(factors, [fractions_of(a) for a in rows], len(field)))


def groups_for(d):
    """Lists of 0 to 8 rows: of all ranks, with 0, with rows that are alike, with sums of others, in any order."""
    samples = rows_for(d)
    random = Random(d)
    for count in range(9):
        yield (samples * 2)[count:2 * count]
        yield [[0] * d + [k + 1] for k in range(count)]
        yield [samples[-3]] * count
        yield [[random.randint(-3, 3) for i in range(d)] + [random.randint(1, 4)] for k in range(count)]
        yield [[random.randint(-BIG, BIG) for i in range(d)] + [random.randint(1, BIG)] for k in range(count)]
        yield [[random.choice((0, 0, 1, BIG)) for i in range(d)] + [random.choice((1, 2, BIG))] for k in range(count)]
        # Sums of only a few rows times fractions.
        for rank in range(1, d):
            few = [[random.randint(-9, 9) for i in range(d)] + [random.randint(1, 9)] for k in range(rank)]
            yield [sum_of([0] * d, [Fraction(random.randint(-5, 5), random.randint(1, 5)) for a in few], few)
                   for k in range(count)]


def targets_for(d, rows):
    """Numbers that may be sums of the rows: 0, the rows, sums of them, and others."""
    random = Random(len(rows))
    found = [[0] * d + [1], [0] * d + [6], [1] + [0] * (d - 1) + [1], [BIG] * (d - 1) + [-BIG, BIG - 1]]
    found += rows[:3]
    for k in range(3):
        factors = [Fraction(random.randint(-8, 8), random.randint(1, 6)) for a in rows]
        found.append(sum_of([0] * d, factors, rows))
    found.append([random.randint(-9, 9) for i in range(d)] + [random.randint(1, 9)])
    found.append([random.randint(-BIG, BIG) for i in range(d)] + [random.randint(1, BIG)])
    return found


class SpanTest(unittest.TestCase):

    def test_written_out(self):
        for field, rows, answer in [
            ([-5], [], 0), ([-5], [[0, 1]], 0), ([-5], [[3, 4]], 1), ([-5], [[3, 4], [1, 7]], 1),
            ([-5], [[1, 1]] * 8, 1), ([-5], [[0, 9]] * 8, 0), ([-5], [[0, 9], [-5, 9]], 1),
            ([-2, 0], [], 0), ([-2, 0], [[0, 0, 3]], 0), ([-2, 0], [[1, 1, 1]], 1),
            ([-2, 0], [[1, 1, 1], [2, 2, 3]], 1), ([-2, 0], [[1, 1, 1], [1, -1, 1]], 2),
            ([-2, 0], [[1, 1, 1], [1, -1, 1], [5, 7, 3]], 2),
            ([-2, 0], [[0, 0, 1], [0, 2, 1], [0, 3, 1], [0, 0, 5], [0, -1, 1]], 1), ([-2, 0], [[1, 2, 3]] * 8, 1),
            ([-2, 0], [[0, 1, 1], [1, 0, 1], [0, 1, 2], [1, 0, 2]] * 2, 2),
            ([-2, 0], [[BIG, BIG - 1, 1], [BIG - 1, BIG - 2, 1]], 2), ([-2, 0], [[BIG, -BIG, 1], [1, -1, BIG]], 1),
            ([-2, 0, 0], [[1, 1, 1, 1], [1, 2, 3, 1], [2, 3, 4, 1]], 2),
            ([-2, 0, 0], [[1, 1, 1, 1], [1, 2, 3, 1], [2, 3, 5, 1]], 3),
            ([-2, 0, 0], [[0, 0, 1, 1], [0, 1, 0, 1], [1, 0, 0, 1], [1, 1, 1, 1]], 3),
            ([-2, 0, 0], [[0, 1, 1, 1], [0, 1, 2, 1], [0, 5, 7, 9]], 2),
            ([1, 0, 0, 0], [[1, 2, 3, 4, 5], [5, 6, 7, 8, 6], [9, 10, 11, 12, 7], [13, 14, 15, 16, 8]], 2),
            ([1, 0, 0, 0], [[1, 0, 0, 1, 1], [0, 1, 0, 1, 1], [0, 0, 1, 1, 1], [1, 1, 1, 1, 1]], 4),
            ([1, 0, 0, 0], [[1, 0, 0, 1, 1], [0, 1, 0, 1, 1], [0, 0, 1, 1, 1], [1, 1, 1, 3, 1]], 3),
            ([1, 0, 0, 0], [[0, 0, 0, BIG, BIG]] * 8, 1),
        ]:
            with self.subTest(field=field, rows=rows):
                self.assertEqual(span(field, one_behind_another(rows)), [0, answer])

    def test_all_groups(self):
        found = {}
        for field in ONE_EACH + ([1, 0], [-1, -1, -1], [1, 1, 1, 1], [997, 1000, 1000, 1000]):
            d = len(field)
            for rows in groups_for(d):
                rank = rank_of([fractions_of(a) for a in rows])
                found[d, rank] = found.get((d, rank), 0) + 1
                self.assertEqual(span(field, one_behind_another(rows)), [0, rank], (field, rows))
        for d in range(1, 5):
            for rank in range(d + 1):
                self.assertGreater(found[d, rank], 5)

    def test_units(self):
        for field, places in FIELDS:
            for count in range(len(field) + 1):
                for some in combinations(units(len(field)), count):
                    self.assertEqual(span(field, one_behind_another(some)), [0, count])

    def test_order_and_rows_of_the_same_number(self):
        random = Random(5)
        for field in ONE_EACH:
            for rows in groups_for(len(field)):
                answer = span(field, one_behind_another(rows))
                mixed = random.sample(rows, len(rows))
                self.assertEqual(span(field, one_behind_another(mixed)), answer)
                other = [row(field, a)[1:] for a in rows]
                self.assertEqual(span(field, one_behind_another(other)), answer)

    def test_products_with_a_number_stay_independent(self):
        for field, places in FIELDS:
            for factor in rows_for(len(field))[3:]:
                if any(factor[:-1]):
                    rows = [times(field, a, factor)[1:] for a in units(len(field))]
                    self.assertEqual(span(field, one_behind_another(rows)), [0, len(field)])


class ToldTest(unittest.TestCase):

    def test_written_out(self):
        for field, rows, a, answer in [
            ([-5], [], [0, 1], [0, 1, 1]), ([-5], [], [0, 9], [0, 1, 1]), ([-5], [], [1, 9], [0, 0]),
            ([-5], [[3, 4]], [1, 2], [0, 1, 2, 3]), ([-5], [[3, 4]], [-1, 2], [0, 1, -2, 3]),
            ([-5], [[-3, 4]], [1, 2], [0, 1, -2, 3]), ([-5], [[3, 4]], [0, 5], [0, 1, 0, 1]),
            ([-5], [[3, 4]], [6, 8], [0, 1, 1, 1]), ([-5], [[0, 4]], [0, 1], [-5]), ([-5], [[0, 4]], [1, 1], [-5]),
            ([-5], [[1, 4], [1, 3]], [1, 1], [-5]), ([-5], [[1, BIG]], [BIG, 1], [0, 1, BIG ** 2, 1]),
            ([-5], [[BIG, 1]], [1, BIG], [0, 1, 1, BIG ** 2]),
            ([-2, 0], [], [0, 0, 7], [0, 1, 1]), ([-2, 0], [], [1, 0, 7], [0, 0]), ([-2, 0], [], [0, 1, 7], [0, 0]),
            ([-2, 0], [[1, 0, 1]], [3, 0, 4], [0, 1, 3, 4]), ([-2, 0], [[1, 0, 1]], [3, 1, 4], [0, 0]),
            ([-2, 0], [[1, 1, 1]], [3, 3, 4], [0, 1, 3, 4]), ([-2, 0], [[1, 1, 1]], [3, 4, 4], [0, 0]),
            ([-2, 0], [[1, 1, 1]], [0, 0, 4], [0, 1, 0, 1]), ([-2, 0], [[0, 1, 1]], [1, 0, 1], [0, 0]),
            ([-2, 0], [[1, 1, 1], [1, -1, 1]], [0, 1, 3], [0, 1, 1, -1, 6]),
            ([-2, 0], [[1, -1, 1], [1, 1, 1]], [0, 1, 3], [0, 1, -1, 1, 6]),
            ([-2, 0], [[1, 0, 2], [0, 1, 3]], [4, 6, 8], [0, 1, 4, 9, 4]),
            ([-2, 0], [[1, 0, 2], [0, 1, 3]], [1, 0, 2], [0, 1, 1, 0, 1]),
            ([-2, 0], [[1, 0, 2], [0, 1, 3]], [0, 0, 2], [0, 1, 0, 0, 1]),
            ([-2, 0], [[1, 0, 2], [3, 0, 7]], [1, 0, 1], [-5]), ([-2, 0], [[1, 0, 2], [3, 0, 7]], [0, 1, 1], [-5]),
            ([-2, 0], [[1, 0, 2], [0, 1, 7], [1, 1, 1]], [1, 0, 1], [-5]), ([-2, 0], [[0, 0, 2]], [0, 0, 1], [-5]),
            ([-2, 0], [[1, 1, 2], [0, 0, 2]], [1, 1, 1], [-5]), ([-2, 0], [[0, 0, 2], [1, 1, 2]], [1, 1, 1], [-5]),
            ([-2, 0], [[1, 1, 1], [1, 1, 1]], [1, 1, 1], [-5]),
            ([-2, 0, 0], [[1, 1, 1, 1], [1, 2, 3, 1]], [3, 5, 7, 2], [0, 1, 1, 2, 2]),
            ([-2, 0, 0], [[1, 1, 1, 1], [1, 2, 3, 1]], [3, 5, 8, 2], [0, 0]),
            ([-2, 0, 0], [[0, 0, 1, 1], [0, 1, 0, 1], [1, 0, 0, 1]], [1, 2, 3, 4], [0, 1, 3, 2, 1, 4]),
            ([-2, 0, 0], [[0, 0, 1, 1], [0, 1, 0, 1], [1, 0, 0, 1], [0, 0, 0, 1]], [1, 2, 3, 4], [-5]),
            ([1, 0, 0, 0], [[1, 0, 1, 0, 1], [0, 1, 0, 1, 1]], [2, 5, 2, 5, 10], [0, 1, 2, 5, 10]),
            ([1, 0, 0, 0], [[1, 0, 1, 0, 1], [0, 1, 0, 1, 1]], [2, 5, 2, 6, 10], [0, 0]),
            ([1, 0, 0, 0], [[2, 0, 0, 0, 1], [0, 3, 0, 0, 1], [0, 0, 5, 0, 1], [0, 0, 0, 7, 1]], [1, 1, 1, 1, 1],
             [0, 1, 105, 70, 42, 30, 210]),
        ]:
            with self.subTest(field=field, rows=rows, a=a):
                self.assertEqual(told(field, one_behind_another(rows), a), answer)

    def test_all_groups(self):
        found = {}
        for field in ONE_EACH + ([1, 0], [1, 1, 1, 1]):
            d = len(field)
            for rows in groups_for(d):
                vectors = [fractions_of(a) for a in rows]
                rank = rank_of(vectors)
                for a in targets_for(d, rows):
                    answer = told(field, one_behind_another(rows), a)
                    if rank < len(rows):
                        kind = "dependent"
                        self.assertEqual(answer, [-5], (field, rows, a))
                    elif rank_of(vectors + [fractions_of(a)]) > rank:
                        kind = "no sum"
                        self.assertEqual(answer, [0, 0], (field, rows, a))
                    else:
                        kind = "sum"
                        self.check_sum(answer, field, rows, a)
                    found[d, kind] = found.get((d, kind), 0) + 1
        for d in range(1, 5):
            for kind in ("dependent", "no sum", "sum"):
                self.assertGreater(found[d, kind], 10, (d, kind))

    def check_sum(self, answer, field, rows, a):
        """The rows times the fractions come to a, and the denominator is above 0 and the least."""
        self.assertEqual(answer[:2], [0, 1], (field, rows, a))
        self.assertEqual(len(answer), len(rows) + 3, (field, rows, a))
        self.assertGreater(answer[-1], 0)
        self.assertEqual(gcd(*answer[2:]), 1, (field, rows, a))
        factors = [Fraction(n, answer[-1]) for n in answer[2:-1]]
        total = combined(factors, [fractions_of(b) for b in rows], len(field))
        self.assertEqual(total, fractions_of(a), (field, rows, a))
        # The same once more, by the calls.
        total = [0] * len(field) + [1]
        for factor, b in zip(answer[2:-1], rows):
            factor = [factor] + [0] * (len(field) - 1) + [answer[-1]]
            total = plus(field, total, times(field, factor, b)[1:])[1:]
        self.assertEqual([0] + total, row(field, a))

    def test_in_1_and_x_a_number_is_its_row(self):
        for field, places in FIELDS:
            rows = one_behind_another(units(len(field)))
            for a in rows_for(len(field)):
                self.assertEqual(told(field, rows, a), [0, 1] + row(field, a)[1:])

    def test_no_rows(self):
        for field, places in FIELDS:
            for a in rows_for(len(field)):
                self.assertEqual(told(field, [], a), [0, 0] if any(a[:-1]) else [0, 1, 1])

    def test_a_is_one_of_the_rows(self):
        for field in ONE_EACH:
            for rows in groups_for(len(field)):
                if span(field, one_behind_another(rows)) == [0, len(rows)]:
                    for k, a in enumerate(rows):
                        answer = [int(i == k) for i in range(len(rows))] + [1]
                        self.assertEqual(told(field, one_behind_another(rows), a), [0, 1] + answer)

    def test_0_is_0_times_the_rows(self):
        for field in ONE_EACH:
            for rows in groups_for(len(field)):
                for last in (1, 6, BIG):
                    answer = told(field, one_behind_another(rows), [0] * len(field) + [last])
                    if span(field, one_behind_another(rows)) == [0, len(rows)]:
                        self.assertEqual(answer, [0, 1] + [0] * len(rows) + [1])
                    else:
                        self.assertEqual(answer, [-5])

    def test_told_and_span_tell_the_same(self):
        for field in ONE_EACH:
            for rows in groups_for(len(field)):
                numbers = one_behind_another(rows)
                if len(rows) < 8:
                    for a in targets_for(len(field), rows):
                        more = span(field, numbers + a)[1] > span(field, numbers)[1]
                        independent = span(field, numbers)[1] == len(rows)
                        first = told(field, numbers, a)[:2]
                        self.assertEqual(first, [0, int(not more)] if independent else [-5])

    def test_great_numbers(self):
        rows = [[BIG, BIG - 1, BIG - 2, BIG - 4, BIG], [-BIG, BIG - 3, 1, BIG - 8, BIG - 1],
                [BIG - 9, -BIG, BIG - 7, 2, BIG - 2], [1 - BIG, BIG, -BIG, BIG, BIG - 3]]
        for field in ([1, 0, 0, 0], [997, 1000, 1000, 1000]):
            self.assertEqual(span(field, one_behind_another(rows)), [0, 4])
            for a in rows_for(4):
                self.check_sum(told(field, one_behind_another(rows), a), field, rows, a)


class RefusalTest(unittest.TestCase):

    def answers(self, field, rows, a):
        return [span(field, rows), told(field, rows, a)]

    def test_lengths(self):
        for field in ONE_EACH:
            d = len(field)
            for length in range(61):
                if length > 8 * (d + 1):
                    asked = [[-3], [-3]]
                elif length % (d + 1) != 0:
                    asked = [[-9], [-9]]
                elif length == 0:
                    asked = [[0, 0], [0, 0]]
                else:
                    asked = [[0, 1], [0, 1, 1, 1] if length == d + 1 else [-5]]
                self.assertEqual(self.answers(field, [1] * length, [1] * (d + 1)), asked, (field, length))

    def test_last_numbers_of_rows(self):
        for field in ONE_EACH:
            d = len(field)
            for k in range(8):
                for last in (0, -1, -BIG):
                    rows = [[1] * (d + 1) for i in range(8)]
                    rows[k][-1] = last
                    for some in (rows, rows[:k + 1]):
                        self.assertEqual(self.answers(field, one_behind_another(some), [1] * (d + 1)), [[-9], [-9]])

    def test_a_is_no_number(self):
        for field in ONE_EACH + ([1, 0], [1, 0, 0, 0]):
            d = len(field)
            for a in rows_that_are_none(d):
                for rows in ([], [1] * (d + 1), [1] * (8 * (d + 1)), [0] * d + [1], [1] * (d + 2), [1]):
                    self.assertEqual(told(field, rows, a), [-9], (field, rows, a))

    def test_no_fields(self):
        for refusal, fields in [(-1, NO_FIELDS), (-2, PRODUCTS)]:
            for field in fields:
                for rows in ([], [1] * (len(field) + 1), [1], [0] * 60):
                    for a in ([1] * (len(field) + 1), [], [BIG] * 10):
                        self.assertEqual(self.answers(field, rows, a), [[refusal]] * 2, (field, rows, a))

    def test_first_refusal_counts(self):
        self.assertEqual(self.answers([0, 1001], [0] * 25, []), [[-1]] * 2)
        self.assertEqual(self.answers([0, 1000], [0] * 25, []), [[-2]] * 2)
        self.assertEqual(self.answers([3, 1000], [0] * 25, []), [[-3]] * 2)
        self.assertEqual(self.answers([3, 1000], [0] * 27, []), [[-3]] * 2)
        self.assertEqual(self.answers([3, 1000], [0] * 24, []), [[-9]] * 2)
        self.assertEqual(self.answers([3, 1000], [1] * 23, [1, 1, 1]), [[-9]] * 2)
        self.assertEqual(told([3, 1000], [1] * 24, [1, 1, 0]), [-9])
        self.assertEqual(told([3, 1000], [1] * 24, [1, 1, 1]), [-5])
        self.assertEqual(told([3, 1000], [1] * 6, [1, 2, 1]), [-5])
        self.assertEqual(told([3, 1000], [1] * 3, [1, 2, 1]), [0, 0])

    def test_what_is_handed_in_stays(self):
        for field, rows, a in [([-2, 0], [6, -4, 2, 1, 1, 1], [2, 4, 6]), ([-2, 0], [], [2, 4, 6]),
                               ([-2, 0], [6, -4, 2], [2, 4, 6]), ([-2, 0], [6, -4], [2, 4, 6]), ([-2, 0], [], [1]),
                               ([-2, 0], [6, -4, 2, 3, -2, 8], [2, 4, 6]), ([-2, 0], [1] * 25, [1]), ([0, 0], [], []),
                               ([], [], []), ([1, 0, 0, 0], [2, 4, 6, 8, 10] * 8, [3, 6, 9, 12, 15]),
                               ([1, 0, 0, 0], [0, 4, 0, 8, 10], [0, 6, 0, 12, 15])]:
            given = (Fixed(field), Fixed(rows), Fixed(a))
            first = self.answers(*given)
            kept = [list(answer) for answer in first]
            self.assertEqual([list(g) for g in given], [field, rows, a])
            for answer in first:
                answer.append(99)
            self.assertEqual(self.answers(*given), kept)

    def test_one_list_handed_in_twice(self):
        a = Fixed([6, -4, 4])
        self.assertEqual(told([-2, 0], a, a), [0, 1, 1, 1])
        self.assertEqual(list(a), [6, -4, 4])

    def test_kinds(self):
        for field, rows, a in [([-2, 0], [6, -4, 2], [1, 1, 1]), ([-2, 0], [6, -4, 2], [3, -2, 1]),
                               ([-2, 0], [], [0, 0, 1]), ([-2, 0], [0, 0, 1], [1, 1, 1]), ([-2, 0], [1], []),
                               ([-2, 0], [1] * 60, []), ([], [], [])]:
            for answer in self.answers(field, rows, a):
                self.assertIs(type(answer), list)
                self.assertTrue(all(type(n) is int for n in answer))


if __name__ == "__main__":
    unittest.main()
