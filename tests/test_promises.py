"""P1 to P4 over the whole program: the calls tell the same of the same numbers, whatever the field."""

import unittest
from fractions import Fraction
from itertools import product
from random import Random

from maps import combined, determinant, diagonal_sum, map_of, rank_of
from rootrows.numbers import (digits, floor, least, minus, norm, open_of, over, parts, plus, power, read, row, sign,
                              span, times, told, trace, value, whole)
from samples import BIG, fractions_of, one_behind_another, product_of_fractions, row_of


def some_fields():
    """Fields of each degree, with numbers of all sizes; the same at each time."""
    random = Random(2)
    found = []
    for d in (1, 2, 3, 4):
        for size in (1, 3, 30, 1000):
            count = 0
            while count < 2:
                field = [random.randint(-size, size) for k in range(d)]
                if open_of(field)[0] == 0:
                    found.append(field)
                    count += 1
    return found


def some_rows(field, count):
    random = Random(repr(field))
    found = [[0] * len(field) + [1], [1] + [0] * (len(field) - 1) + [1]]
    for k in range(count):
        size = random.choice((1, 9, 1000, BIG))
        found.append([random.randint(-size, size) for n in field] + [random.randint(1, random.choice((1, 9, size)))])
    return found


def text_of(a):
    """An expression of the number, as a list of bytes; its numbers must be short enough."""
    terms = [f"({n})*x^{k}" for k, n in enumerate(a[:-1])]
    return list(f"({'+'.join(terms)})/{a[-1]}".encode("ascii"))


FIELDS = some_fields()


class ExactTest(unittest.TestCase):

    def test_against_fractions(self):
        for field in FIELDS:
            for a, b in product(some_rows(field, 8), repeat=2):
                left, right = fractions_of(a), fractions_of(b)
                self.assertEqual(row(field, a), [0] + row_of(left))
                self.assertEqual(plus(field, a, b), [0] + row_of([m + n for m, n in zip(left, right)]))
                self.assertEqual(minus(field, a, b), [0] + row_of([m - n for m, n in zip(left, right)]))
                together = product_of_fractions(field, left, right)
                self.assertEqual(times(field, a, b), [0] + row_of(together))
                self.assertEqual(value(field, a + b, a), plus(field, a, row_of(together)))
                matrix = map_of(field, a)
                for call, asked in [(trace, diagonal_sum(matrix)), (norm, determinant(matrix))]:
                    self.assertEqual(call(field, a), [0, asked.numerator, asked.denominator])

    def test_read_and_the_calls_tell_the_same(self):
        for field in FIELDS:
            rows = [a for a in some_rows(field, 12) if max(map(abs, a)) < 10 ** 9][:6]
            self.assertGreater(len(rows), 3)
            for a, b in product(rows, repeat=2):
                left, right = bytes(text_of(a)).decode("ascii"), bytes(text_of(b)).decode("ascii")
                self.assertEqual(read(field, text_of(a)), row(field, a))
                for text, answer in [
                    (f"{left} + {right}", plus(field, a, b)), (f"{left} - {right}", minus(field, a, b)),
                    (f"({left}) * ({right})", times(field, a, b)), (f"({left}) / ({right})", over(field, a, b)),
                    (f"({left})^3", power(3, field, a)), (f"1/({left})^2", power(-2, field, a)),
                    (f"- ({left})", minus(field, [0] * len(field) + [1], a)),
                ]:
                    self.assertEqual(read(field, list(text.encode("ascii"))), answer, (field, text))


class FieldTest(unittest.TestCase):

    def test_laws(self):
        for field in FIELDS:
            zero, one = some_rows(field, 0)
            for a, b, c in product(some_rows(field, 3), repeat=3):
                self.assertEqual(plus(field, a, b), plus(field, b, a))
                self.assertEqual(times(field, a, b), times(field, b, a))
                self.assertEqual(plus(field, plus(field, a, b)[1:], c), plus(field, a, plus(field, b, c)[1:]))
                self.assertEqual(times(field, times(field, a, b)[1:], c), times(field, a, times(field, b, c)[1:]))
                self.assertEqual(times(field, a, plus(field, b, c)[1:]),
                                 plus(field, times(field, a, b)[1:], times(field, a, c)[1:]))
                self.assertEqual(plus(field, minus(field, a, b)[1:], b), row(field, a))
                if row(field, b) == [0] + zero:
                    self.assertEqual(over(field, a, b), [-5])
                else:
                    self.assertEqual(times(field, over(field, a, b)[1:], b), row(field, a))
            for a in some_rows(field, 8):
                self.assertEqual(plus(field, a, zero), row(field, a))
                self.assertEqual(times(field, a, one), row(field, a))
                self.assertEqual(minus(field, a, a), [0] + zero)
                for k in range(1, 21):
                    self.assertEqual(power(k, field, a), times(field, power(k - 1, field, a)[1:], a))
                    if any(a[:-1]):
                        self.assertEqual(power(-k, field, a), over(field, one, power(k, field, a)[1:]))


class OrderTest(unittest.TestCase):

    def test_order(self):
        for field in FIELDS:
            rows = some_rows(field, 4)
            for k in range(open_of(field)[2]):
                signs = [sign(k, field, a)[1] for a in rows]
                self.assertEqual([s == 0 for s in signs], [not any(a[:-1]) for a in rows])
                for (a, s), (b, t) in product(zip(rows, signs), repeat=2):
                    self.assertEqual(sign(k, field, times(field, a, b)[1:]), [0, s * t])
                    if s == t:
                        self.assertEqual(sign(k, field, plus(field, a, b)[1:]), [0, s])
                    if any(b[:-1]):
                        self.assertEqual(sign(k, field, over(field, a, b)[1:]), [0, s * t])
                    first = sign(k, field, minus(field, a, b)[1:])[1]
                    self.assertEqual(sign(k, field, minus(field, b, a)[1:]), [0, -first])
                    if first <= 0:
                        self.assertLessEqual(floor(k, field, a), floor(k, field, b))
                        self.assertLessEqual(self.decimals(k, field, a), self.decimals(k, field, b))

    def decimals(self, k, field, a):
        return Fraction(bytes(digits(k, 20, field, a)[1:]).decode("ascii"))

    def is_between(self, k, field, low, a, high):
        """Whether the value of a is between the two fractions, or one of them."""
        rest = [0] * (len(field) - 1)
        left, right = [[f.numerator] + rest + [f.denominator] for f in (low, high)]
        return sign(k, field, minus(field, a, left)[1:])[1] >= 0 >= sign(k, field, minus(field, a, right)[1:])[1]

    def test_floor_digits_and_parts_tell_the_value(self):
        for field in FIELDS:
            for k in range(open_of(field)[2]):
                for a in some_rows(field, 12):
                    whole_part = floor(k, field, a)[1]
                    self.assertTrue(self.is_between(k, field, Fraction(whole_part), a, Fraction(whole_part + 1)))
                    near = self.decimals(k, field, a)
                    half = Fraction(1, 2 * 10 ** 20)
                    self.assertTrue(self.is_between(k, field, near - half, a, near + half))
                    found = parts(k, 20, field, a)[1:]
                    self.assertEqual(found[0], whole_part)
                    ends = []
                    for last in (found[-1], found[-1] + 1):
                        end = Fraction(last)
                        for part in reversed(found[:-1]):
                            end = part + 1 / end
                        ends.append(end)
                    self.assertTrue(self.is_between(k, field, min(ends), a, max(ends)))

    def test_sums_of_values(self):
        # What the floors of a and b leave out is less than 2 together.
        for field in FIELDS:
            for k in range(open_of(field)[2]):
                for a, b in product(some_rows(field, 5), repeat=2):
                    together = floor(k, field, a)[1] + floor(k, field, b)[1]
                    self.assertIn(floor(k, field, plus(field, a, b)[1:])[1] - together, (0, 1))


class ToldOfNumbersTest(unittest.TestCase):

    def test_traces_add_and_norms_multiply(self):
        for field in FIELDS:
            for a, b in product(some_rows(field, 8), repeat=2):
                for call, answer, asked in [
                    (trace, plus(field, a, b), Fraction(*trace(field, a)[1:]) + Fraction(*trace(field, b)[1:])),
                    (norm, times(field, a, b), Fraction(*norm(field, a)[1:]) * Fraction(*norm(field, b)[1:])),
                ]:
                    self.assertEqual(call(field, answer[1:]), [0, asked.numerator, asked.denominator])

    def test_least_polynomials(self):
        for field in FIELDS:
            d = len(field)
            for a in some_rows(field, 12):
                numbers = least(field, a)[1:]
                rows = one_behind_another([[n] + [0] * (d - 1) + [1] for n in numbers])
                self.assertEqual(value(field, rows, a), [0] + [0] * d + [1])
                self.assertEqual(whole(field, a), [0, int(numbers[-1] == 1)])
                # The powers below its degree are independent, and the next one is a sum of them as it tells.
                degree = len(numbers) - 1
                powers = one_behind_another([power(k, field, a)[1:] for k in range(degree)])
                self.assertEqual(span(field, powers), [0, degree])
                answer = told(field, powers, power(degree, field, a)[1:])
                self.assertEqual(answer, [0, 1] + [-n for n in numbers[:-1]] + [numbers[-1]])

    def test_span_and_told(self):
        for field in FIELDS:
            d = len(field)
            rows = some_rows(field, 20)
            for count in range(d + 2):
                for start in range(2, 12, 3):
                    some = rows[start:start + count]
                    vectors = [fractions_of(a) for a in some]
                    self.assertEqual(span(field, one_behind_another(some)), [0, rank_of(vectors)])
                    for a in (rows[0], rows[1], rows[start + count], row_of(combined([3, -1, 2, 5, 1], vectors, d))):
                        answer = told(field, one_behind_another(some), a)
                        if rank_of(vectors) < count:
                            self.assertEqual(answer, [-5])
                        elif rank_of(vectors + [fractions_of(a)]) > count:
                            self.assertEqual(answer, [0, 0])
                        else:
                            factors = fractions_of(answer[2:])
                            self.assertEqual(combined(factors, vectors, d), fractions_of(a))
                            self.assertEqual(answer, [0, 1] + row_of(factors))


if __name__ == "__main__":
    unittest.main()
