"""parts: the value of a number at a place, as whole numbers one within another."""

import unittest
from decimal import Decimal
from fractions import Fraction

from near import ALL, LAST, NEAR, SMALL, fraction_of, has_no_x, near_whole_rows
from roots import value_at
from rootrows.numbers import digits, floor, minus, open_of, over, parts, sign
from samples import BIG, FIELDS, Fixed, NO_FIELDS, ONE_EACH, PRODUCTS, rows_for, rows_that_are_none


def parts_of_fraction(number):
    """All parts, as the document tells them."""
    found = [number.numerator // number.denominator]
    while number != found[-1]:
        number = 1 / (number - found[-1])
        found.append(number.numerator // number.denominator)
    return found


def sure_parts(number):
    """The first parts of a number that is no fraction, as many as its 140 digits behind the point tell, 20 at most."""
    doubt = Fraction(1, 10 ** 140)
    low = parts_of_fraction(Fraction(number) - doubt)
    high = parts_of_fraction(Fraction(number) + doubt)
    return [m for k, m in enumerate(low[:20]) if low[:k + 1] == high[:k + 1]]


def together(numbers):
    """The fraction that has these parts."""
    total = Fraction(numbers[-1])
    for part in reversed(numbers[:-1]):
        total = part + 1 / total
    return total


def fraction_row(fraction, field):
    return [fraction.numerator] + [0] * (len(field) - 1) + [fraction.denominator]


def fibonacci(n):
    left, right = 0, 1
    for step in range(n):
        left, right = right, left + right
    return left


class PartsTest(unittest.TestCase):

    def test_written_out(self):
        for k, n, field, a, answer in [
            (0, 20, [-5], [7, 1], [7]), (0, 20, [-5], [-7, 1], [-7]), (0, 20, [-5], [0, 9], [0]),
            (0, 20, [-5], [7, 2], [3, 2]), (0, 20, [-5], [-7, 2], [-4, 2]), (0, 20, [-5], [1, 2], [0, 2]),
            (0, 20, [-5], [-1, 2], [-1, 2]), (0, 20, [-5], [-1, 3], [-1, 1, 2]), (0, 20, [-5], [-2, 3], [-1, 3]),
            (0, 20, [-5], [355, 113], [3, 7, 16]), (0, 20, [-5], [-355, 113], [-4, 1, 6, 16]),
            (0, 20, [-5], [710, 226], [3, 7, 16]), (0, 2, [-5], [355, 113], [3, 7]),
            (0, 3, [-5], [355, 113], [3, 7, 16]),
            (0, 0, [-5], [355, 113], []), (0, 1, [-5], [355, 113], [3]), (0, 1, [-5], [-355, 113], [-4]),
            (0, 20, [-5], [BIG, 1], [BIG]), (0, 20, [-5], [-BIG, 1], [-BIG]), (0, 20, [-5], [1, BIG], [0, BIG]),
            (0, 20, [-5], [-1, BIG], [-1, 1, BIG - 1]), (0, 20, [-5], [BIG - 1, BIG], [0, 1, BIG - 1]),
            (0, 20, [-5], [BIG, BIG - 1], [1, BIG - 1]), (0, 20, [-5], [BIG, BIG], [1]),
            (0, 20, [-2, 0], [6, 0, 4], [1, 2]), (1, 20, [-2, 0], [-6, 0, 4], [-2, 2]),
            (1, 20, [-2, 0], [0, 0, 3], [0]),
            (1, 20, [-2, 0], [0, 1, 1], [1] + [2] * 19), (0, 20, [-2, 0], [0, 1, 1], [-2, 1, 1] + [2] * 17),
            (1, 20, [-2, 0], [1, 1, 1], [2] * 20), (1, 20, [-2, 0], [-1, 1, 1], [0] + [2] * 19),
            (1, 3, [-2, 0], [1, 1, 1], [2, 2, 2]), (1, 1, [-2, 0], [1, 1, 1], [2]), (1, 0, [-2, 0], [1, 1, 1], []),
            (1, 20, [-1, -1], [0, 1, 1], [1] * 20), (0, 20, [-1, -1], [0, 1, 1], [-1, 2] + [1] * 18),
            (1, 8, [-1000, 0], [0, 1, 1], [31, 1, 1, 1, 1, 1, 6, 2]),
            (1, 9, [-7, 0], [0, 1, 1], [2, 1, 1, 1, 4, 1, 1, 1, 4]),
            (0, 20, [-2, 0, 0], [0, 1, 0, 1], [1, 3, 1, 5, 1, 1, 4, 1, 1, 8, 1, 14, 1, 10, 2, 1, 4, 12, 2, 3]),
            (0, 20, [-2, 0, 0], [8, 0, 0, 6], [1, 3]),
            (2, 20, [1, -3, 0], [0, 1, 0, 1], [1, 1, 1, 7, 3, 2, 3, 1, 1, 6, 11, 1, 3, 2, 1, 9, 36, 1, 1, 55]),
            (3, 20, [1, 0, -10, 0], [0, 0, 1, 0, 1], [9, 1, 8, 1, 8, 1, 8, 1, 8, 1, 8, 1, 8, 1, 8, 1, 8, 1, 8, 1]),
            (1, 20, [1, 0, -10, 0], [7, 0, 0, 0, 3], [2, 3]),
        ]:
            with self.subTest(k=k, n=n, field=field, a=a):
                self.assertEqual(parts(k, n, field, a), [0] + answer)

    def check_put_together(self, k, n, field, a):
        """The value lies between what the parts come to and what they come to with 1 more in the last."""
        found = parts(k, n, field, a)[1:]
        self.assertTrue(all(part >= 1 for part in found[1:]), (k, n, field, a))
        side = 1 if len(found) % 2 == 1 else -1
        here = minus(field, a, fraction_row(together(found), field))[1:]
        further = minus(field, a, fraction_row(together(found[:-1] + [found[-1] + 1]), field))[1:]
        if has_no_x(a) and len(found) == len(parts_of_fraction(fraction_of(a))):
            self.assertEqual(sign(k, field, here), [0, 0], (k, n, field, a))
        else:
            self.assertEqual(len(found), n, (k, n, field, a))
            self.assertEqual(sign(k, field, here), [0, side], (k, n, field, a))
        self.assertEqual(sign(k, field, further), [0, -side], (k, n, field, a))

    def check_against_decimals(self, k, field, a, least_sure):
        sure = sure_parts(value_at(k, field, a))
        self.assertGreaterEqual(len(sure), least_sure)
        answer = parts(k, 20, field, a)
        self.assertEqual(len(answer), 21, (k, field, a))
        self.assertEqual(answer[:len(sure) + 1], [0] + sure, (k, field, a))

    def test_all_samples(self):
        for field, places in ALL:
            for k in range(places):
                for a in rows_for(len(field)):
                    if has_no_x(a):
                        answer = parts_of_fraction(fraction_of(a))[:20]
                        self.assertEqual(parts(k, 20, field, a), [0] + answer, (k, field, a))
                    else:
                        self.check_against_decimals(k, field, a, 20)

    def test_every_number_of_parts(self):
        for k, field, a in [(0, [-5], [355, 113]), (0, [-5], [-9, 1]), (1, [-2, 0], [1, -5, 7]),
                            (0, [-2, 0], [3, 0, 8]), (0, [-2, 0, 0], [1, 2, 3, 4]),
                            (2, [1, 0, -10, 0], [1, 2, -3, 4, 9]), (0, [-5], [fibonacci(90), fibonacci(89)])]:
            first = parts(k, 20, field, a)[1:]
            for n in range(21):
                self.assertEqual(parts(k, n, field, a), [0] + first[:n])
            for n in (21, 22, 100, 2 ** 31, 2 ** 32 - 2, LAST):
                self.assertEqual(parts(k, n, field, a), [-3])

    def test_fractions_of_all_kinds(self):
        for top in range(-60, 61):
            for bottom in list(range(1, 24)) + [60, 999]:
                answer = [0] + parts_of_fraction(Fraction(top, bottom))
                self.assertLess(len(answer), 20)
                self.assertEqual(parts(0, 20, [-5], [top, bottom]), answer)
                self.assertEqual(parts(1, 20, [-2, 0], [top, 0, bottom]), answer)
                self.assertEqual(parts(2, 20, [1, 0, -10, 0], [top, 0, 0, 0, bottom]), answer)

    def test_fractions_with_many_parts(self):
        for field, places in FIELDS:
            for n in (19, 20, 21, 22, 23, 24, 89):
                for factor in (1, -1):
                    number = Fraction(factor * fibonacci(n + 1), fibonacci(n))
                    answer = parts_of_fraction(number)
                    for k in range(places):
                        self.assertEqual(parts(k, 20, field, fraction_row(number, field)), [0] + answer[:20])
                        self.assertEqual(parts(k, 19, field, fraction_row(number, field)), [0] + answer[:19])
        lengths = [len(parts(0, 20, [0], [fibonacci(n + 1), fibonacci(n)])) - 1 for n in range(2, 30)]
        self.assertEqual(lengths, [min(n - 1, 20) for n in range(2, 30)])

    def test_whole_numbers_have_one_part(self):
        for field, places in FIELDS:
            for number in (0, 1, -1, 2, 7, -1000, 10 ** 9, BIG // 2, -BIG // 2):
                for last in (1, 2):
                    a = [number * last] + [0] * (len(field) - 1) + [last]
                    for k in range(places):
                        for n in (1, 2, 20):
                            self.assertEqual(parts(k, n, field, a), [0, number])
                        self.assertEqual(parts(k, 0, field, a), [0])

    def test_very_near_to_whole_numbers(self):
        greatest = 0
        for field, small in SMALL:
            for a in near_whole_rows(field, small):
                for k in range(open_of(field)[2]):
                    greatest = max(greatest, max(parts(k, 3, field, a)))
                    self.check_against_decimals(k, field, a, 4)
                    self.check_put_together(k, 20, field, a)
        self.assertGreater(greatest, 10 ** 40)

    def test_very_near_to_other_fractions(self):
        # A fraction and next to nothing more or less: the parts of the fraction come first, then a great one.
        for field, small in SMALL:
            for a in near_whole_rows(field, small):
                for top, bottom in [(1, 2), (-355, 113)]:
                    b = [bottom * a[0] + top * a[-1]] + [bottom * n for n in a[1:-1]] + [bottom * a[-1]]
                    if max(abs(n) for n in b) <= BIG:
                        for k in range(open_of(field)[2]):
                            self.check_against_decimals(k, field, b, 4)
                            self.check_put_together(k, 20, field, b)

    def test_put_together_again(self):
        for field, places in ALL:
            for k in range(places):
                for a in rows_for(len(field)):
                    for n in (1, 2, 5, 20):
                        self.check_put_together(k, n, field, a)

    def test_as_the_document_tells_them(self):
        # The whole number below, then the same of 1 divided by what is left, reckoned in the field.
        for field, places in [sample for sample in ALL if sample[0] in ONE_EACH] + NEAR:
            one = [1] + [0] * (len(field) - 1) + [1]
            for k in range(places):
                for a in rows_for(len(field))[1::2]:
                    found = []
                    rest = a
                    while len(found) < 20 and rest is not None:
                        found.append(floor(k, field, rest)[1])
                        left = minus(field, rest, [found[-1]] + one[1:])[1:]
                        rest = over(field, one, left)[1:] if any(left[:-1]) else None
                    self.assertEqual(parts(k, 20, field, a), [0] + found, (k, field, a))

    def test_floor_and_digits_tell_the_same_value(self):
        for field, places in ALL:
            for k in range(places):
                for a in rows_for(len(field)):
                    found = parts(k, 20, field, a)[1:]
                    self.assertEqual([0, found[0]], floor(k, field, a))
                    number = Fraction(bytes(digits(k, 20, field, a)[1:]).decode("ascii"))
                    ends = sorted([together(found), together(found[:-1] + [found[-1] + 1])])
                    half = Fraction(1, 2 * 10 ** 20)
                    self.assertLessEqual(ends[0] - half, number)
                    self.assertLessEqual(number, ends[1] + half)

    def test_rows_of_the_same_number(self):
        for field, places in FIELDS:
            for k in range(places):
                for a in ([3, -2, 5, 1, 7], [-1, 1, 0, 0, 2]):
                    a = a[:len(field)] + a[-1:]
                    for factor in (2, 30, 10 ** 15):
                        self.assertEqual(parts(k, 20, field, [factor * n for n in a]), parts(k, 20, field, a))


class OracleTest(unittest.TestCase):

    def test_decimal_parts(self):
        self.assertEqual(sure_parts(Decimal(2).sqrt()), [1] + [2] * 19)
        self.assertEqual(sure_parts(-(Decimal(5).sqrt() + 1) / 2), [-2, 2] + [1] * 18)
        self.assertEqual(sure_parts(5 * 10 ** 29 + (25 * Decimal(10) ** 58 + 1).sqrt()), [10 ** 30] * 2)


class RefusalTest(unittest.TestCase):

    def test_places(self):
        for field, places in ALL:
            good = [1] * (len(field) + 1)
            for k in range(places):
                self.assertEqual(parts(k, 2, field, good)[0], 0)
            for k in (places, places + 1, places + 2, 5, 100, 2 ** 31, LAST - 1, LAST):
                for a in (good, [0] * len(field) + [1], [7] + [0] * (len(field) - 1) + [2]):
                    for n in (0, 1, 20, 21, LAST):
                        self.assertEqual(parts(k, n, field, a), [-4], (k, n, field, a))

    def test_too_many_parts(self):
        for field, places in ALL:
            for k in range(places):
                for a in rows_for(len(field))[::4]:
                    for n in (21, LAST):
                        self.assertEqual(parts(k, n, field, a), [-3])

    def test_no_numbers(self):
        for field in ONE_EACH + ([1, 0], [1, 0, 0, 0]):
            for a in rows_that_are_none(len(field)):
                for k, n in [(0, 0), (0, 20), (0, 21), (9, 1), (LAST, LAST)]:
                    self.assertEqual(parts(k, n, field, a), [-9], (k, n, field, a))

    def test_no_fields(self):
        for refusal, fields in [(-1, NO_FIELDS), (-2, PRODUCTS)]:
            for field in fields:
                for a in ([1] * (len(field) + 1), [0] * len(field) + [1], [], [BIG] * 10):
                    for k, n in [(0, 0), (0, 20), (0, 21), (LAST, LAST)]:
                        self.assertEqual(parts(k, n, field, a), [refusal], (k, n, field, a))

    def test_first_refusal_counts(self):
        self.assertEqual(parts(4, 21, [0, 1001], [1]), [-1])
        self.assertEqual(parts(4, 21, [0, 1000], [1]), [-2])
        self.assertEqual(parts(4, 21, [3, 1000], [1]), [-9])
        self.assertEqual(parts(4, 21, [3, 1000], [1, 1, 1]), [-4])
        self.assertEqual(parts(0, 21, [1, 0], [1, 1, 1]), [-4])
        self.assertEqual(parts(1, 21, [3, 1000], [1, 1, 1]), [-3])

    def test_what_is_handed_in_stays(self):
        for k, n, field, a in [(1, 5, [-2, 0], [6, -4, 2]), (0, 5, [-2, 0], [-6, 0, 4]), (0, 5, [-2, 0], [0, 0, 4]),
                               (2, 5, [-2, 0], [6, -4, 2]), (1, 21, [-2, 0], [6, -4, 2]), (0, 0, [-2, 0], [1]),
                               (0, 0, [0, 0], [1, 1, 1]), (0, 0, [], []), (3, 20, [1, 0, -10, 0], [2, 4, 6, 8, 10])]:
            given = (Fixed(field), Fixed(a))
            first = parts(k, n, *given)
            kept = list(first)
            self.assertEqual([list(g) for g in given], [field, a])
            first.append(99)
            self.assertEqual(parts(k, n, *given), kept)

    def test_kinds(self):
        for k, n, field, a in [(1, 5, [-2, 0], [6, -4, 2]), (0, 5, [-2, 0], [0, 0, 4]), (2, 5, [-2, 0], [6, -4, 2]),
                               (1, 0, [-2, 0], [6, -4, 2]), (1, 21, [-2, 0], [6, -4, 2]), (0, 0, [-2, 0], [1]),
                               (0, 0, [0, 0], []), (0, 0, [], [])]:
            answer = parts(k, n, field, a)
            self.assertIs(type(answer), list)
            self.assertTrue(all(type(m) is int for m in answer))


if __name__ == "__main__":
    unittest.main()
