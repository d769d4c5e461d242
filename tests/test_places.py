"""sign, floor and digits: the value of a number at a place."""

import unittest
from decimal import Decimal, ROUND_FLOOR, ROUND_HALF_UP
from fractions import Fraction
from itertools import product

from near import ALL, LAST, NEAR, SMALL, fraction_of, has_no_x, near_whole_rows
from roots import places_of, value_at
from rootrows.numbers import digits, floor, minus, open_of, plus, sign, times
from samples import BIG, FIELDS, Fixed, NO_FIELDS, ONE_EACH, PRODUCTS, rows_for, rows_that_are_none


def text_of(k, n, field, a):
    answer = digits(k, n, field, a)
    assert answer[0] == 0, answer
    return bytes(answer[1:]).decode("ascii")


def sign_of(number):
    return (number > 0) - (number < 0)


def rounded(fraction, n):
    """As the document asks, of a fraction."""
    scaled = abs(fraction) * 10 ** n
    number = scaled.numerator // scaled.denominator
    if scaled - number >= Fraction(1, 2):
        number += 1
    text = str(number).rjust(n + 1, "0")
    text = text[:len(text) - n] + ("." + text[len(text) - n:] if n else "")
    return ("-" if fraction < 0 and number else "") + text


class SampleTest(unittest.TestCase):

    def test_places_of_the_samples(self):
        for field, places in ALL:
            self.assertEqual(open_of(field), [0, len(field), places])
            self.assertEqual(len(places_of(tuple(field))), places, field)

    def test_near_places_are_near(self):
        for field, places in NEAR:
            gaps = [b - a for a, b in zip(places_of(tuple(field)), places_of(tuple(field))[1:])]
            self.assertLess(min(gaps), Decimal("0.001"))


class SignFloorTest(unittest.TestCase):

    def test_written_out(self):
        for k, field, a, sign_asked, floor_asked in [
            (0, [-5], [7, 2], 1, 3), (0, [-5], [-7, 2], -1, -4), (0, [-5], [6, 2], 1, 3), (0, [-5], [-6, 2], -1, -3),
            (0, [-5], [0, 9], 0, 0), (0, [-5], [1, BIG], 1, 0), (0, [-5], [-1, BIG], -1, -1),
            (0, [-2, 0], [0, 1, 1], -1, -2), (1, [-2, 0], [0, 1, 1], 1, 1),
            (0, [-2, 0], [1, 1, 1], -1, -1), (1, [-2, 0], [1, 1, 1], 1, 2),
            (0, [-2, 0], [3, 0, 2], 1, 1), (1, [-2, 0], [-3, 0, 2], -1, -2), (1, [-2, 0], [4, 0, 2], 1, 2),
            (0, [-2, 0], [0, 0, 5], 0, 0), (1, [-2, 0], [0, 0, 5], 0, 0),
            (1, [-2, 0], [0, 100, 1], 1, 141), (0, [-2, 0], [0, 100, 1], -1, -142), (1, [-2, 0], [0, 1, 100], 1, 0),
            (0, [-1, -1], [0, 1, 1], -1, -1), (1, [-1, -1], [0, 1, 1], 1, 1),
            (0, [-2, 0, 0], [0, 1, 1, 1], 1, 2), (0, [-2, 0, 0], [-5, 4, 0, 1], 1, 0),
            (0, [-2, 0, 0], [-4, 3, 0, 1], -1, -1),
            (0, [1, -3, 0], [0, 1, 0, 1], -1, -2), (1, [1, -3, 0], [0, 1, 0, 1], 1, 0),
            (2, [1, -3, 0], [0, 1, 0, 1], 1, 1),
            (0, [1, 0, -10, 0], [0, 1, 0, 0, 1], -1, -4), (1, [1, 0, -10, 0], [0, 1, 0, 0, 1], -1, -1),
            (2, [1, 0, -10, 0], [0, 1, 0, 0, 1], 1, 0), (3, [1, 0, -10, 0], [0, 1, 0, 0, 1], 1, 3),
            (0, [1, 0, -10, 0], [0, 0, 1, 0, 1], 1, 9), (1, [1, 0, -10, 0], [0, 0, 1, 0, 1], 1, 0),
            (0, [-1000, 0], [0, 1, 1], -1, -32), (0, [1, -1000, 1000], [0, 1, 0, 1], -1, -1001),
            (1, [-2, 88, -968, 0], [-1, 22, 0, 0, 1], -1, -1), (2, [-2, 88, -968, 0], [-1, 22, 0, 0, 1], 1, 0),
            (0, [-2, 88, -968], [-1, 22, 0, 1], -1, -1), (1, [-2, 88, -968], [-1, 22, 0, 1], 1, 0),
            (1, [-2, 0], [0, BIG, 1], 1, 13043817825332782210),
        ]:
            with self.subTest(k=k, field=field, a=a):
                self.assertEqual(sign(k, field, a), [0, sign_asked])
                self.assertEqual(floor(k, field, a), [0, floor_asked])

    def test_all_samples(self):
        for field, places in ALL:
            for k in range(places):
                for a in rows_for(len(field)):
                    if has_no_x(a):
                        number = fraction_of(a)
                        whole = number.numerator // number.denominator
                    else:
                        number = value_at(k, field, a)
                        whole = int(number.to_integral_value(ROUND_FLOOR))
                    with self.subTest(k=k, field=field, a=a):
                        self.assertEqual(sign(k, field, a), [0, sign_of(number)])
                        self.assertEqual(floor(k, field, a), [0, whole])

    def test_very_near_to_whole_numbers(self):
        nearest = 1
        for field, small in SMALL:
            for a in near_whole_rows(field, small):
                for k in range(open_of(field)[2]):
                    number = value_at(k, field, a)
                    nearest = min(nearest, abs(number - number.to_integral_value()))
                    with self.subTest(k=k, field=field, a=a):
                        self.assertEqual(sign(k, field, a), [0, sign_of(number)])
                        self.assertEqual(floor(k, field, a), [0, int(number.to_integral_value(ROUND_FLOOR))])
        self.assertLess(nearest, Decimal(10) ** -40)

    def test_floor_and_sign_tell_the_same_value(self):
        for field, places in ALL:
            one = [1] + [0] * (len(field) - 1) + [1]
            for k in range(places):
                for a in rows_for(len(field)):
                    below = [floor(k, field, a)[1]] + one[1:]
                    rest = minus(field, a, below)[1:]
                    self.assertIn(sign(k, field, rest), ([0, 0], [0, 1]))
                    self.assertEqual(sign(k, field, minus(field, rest, one)[1:]), [0, -1])

    def test_signs_are_an_order(self):
        for field, places in [sample for sample in ALL if sample[0] in ONE_EACH] + NEAR:
            for k in range(places):
                rows = rows_for(len(field))[1::2]
                for a, b in product(rows, rows):
                    left, right = sign(k, field, a)[1], sign(k, field, b)[1]
                    self.assertEqual(sign(k, field, times(field, a, b)[1:]), [0, left * right])
                    if left * right >= 0:
                        self.assertEqual(sign(k, field, plus(field, a, b)[1:]), [0, sign_of(left + right)])
                    self.assertEqual(sign(k, field, minus(field, a, b)[1:])[1],
                                     -sign(k, field, minus(field, b, a)[1:])[1])

    def test_places_go_up(self):
        for field, places in ALL:
            if len(field) > 1:
                x = [0, 1] + [0] * (len(field) - 2) + [10 ** 9]
                x = [n * 10 ** 18 for n in x[:-1]] + x[-1:]
                values = [floor(k, field, x)[1] for k in range(places)]
                self.assertEqual(values, sorted(set(values)))

    def test_rows_of_the_same_number(self):
        for field, places in FIELDS:
            for k in range(places):
                for a in ([3, -2, 5, 1, 7], [-1, 1, 0, 0, 2]):
                    a = a[:len(field)] + a[-1:]
                    for factor in (2, 30, 10 ** 15):
                        b = [factor * n for n in a]
                        self.assertEqual(sign(k, field, b), sign(k, field, a))
                        self.assertEqual(floor(k, field, b), floor(k, field, a))
                        self.assertEqual(digits(k, 20, field, b), digits(k, 20, field, a))


class DigitsTest(unittest.TestCase):

    def test_written_out(self):
        for k, n, field, a, text in [
            (0, 0, [-5], [7, 1], "7"), (0, 1, [-5], [7, 1], "7.0"), (0, 0, [-5], [0, 1], "0"),
            (0, 3, [-5], [0, 9], "0.000"), (0, 20, [-5], [0, 1], "0.00000000000000000000"),
            (0, 20, [-5], [-1, 3], "-0.33333333333333333333"), (0, 20, [-5], [2, 3], "0.66666666666666666667"),
            (0, 4, [-5], [-200, 3], "-66.6667"), (0, 0, [-5], [1, 2], "1"), (0, 0, [-5], [-1, 2], "-1"),
            (0, 0, [-5], [3, 2], "2"), (0, 0, [-5], [-3, 2], "-2"), (0, 0, [-5], [5, 2], "3"),
            (0, 0, [-5], [-5, 2], "-3"), (0, 0, [-5], [49, 100], "0"), (0, 0, [-5], [-49, 100], "0"),
            (0, 1, [-5], [1, 4], "0.3"), (0, 1, [-5], [-1, 4], "-0.3"), (0, 1, [-5], [1, 20], "0.1"),
            (0, 1, [-5], [-1, 20], "-0.1"), (0, 1, [-5], [-1, 21], "0.0"), (0, 1, [-5], [1, 21], "0.0"),
            (0, 2, [-5], [999, 1000], "1.00"), (0, 2, [-5], [-1999, 200], "-10.00"),
            (0, 2, [-5], [994, 1000], "0.99"), (0, 0, [-5], [1999, 2], "1000"),
            (0, 18, [-5], [1, 2 * 10 ** 18], "0.000000000000000001"),
            (0, 17, [-5], [-1, 2 * 10 ** 18], "0." + "0" * 17),
            (0, 18, [-5], [-1, 2 * 10 ** 18], "-0.000000000000000001"),
            (0, 19, [-5], [1, BIG], "0.0000000000000000001"), (0, 20, [-5], [1, BIG], "0.00000000000000000011"),
            (0, 20, [-5], [BIG, 1], str(BIG) + "." + "0" * 20), (0, 20, [-5], [-BIG, 1], str(-BIG) + "." + "0" * 20),
            (1, 20, [-2, 0], [0, 1, 1], "1.41421356237309504880"),
            (0, 20, [-2, 0], [0, 1, 1], "-1.41421356237309504880"), (1, 0, [-2, 0], [0, 1, 1], "1"),
            (1, 1, [-2, 0], [0, 1, 1], "1.4"), (1, 4, [-2, 0], [0, 1, 1], "1.4142"),
            (1, 5, [-2, 0], [0, 1, 1], "1.41421"), (1, 6, [-2, 0], [0, 1, 1], "1.414214"),
            (0, 2, [-2, 0], [3, 2, 1], "0.17"), (1, 2, [-2, 0], [3, -2, 1], "0.17"),
            (1, 2, [-2, 0], [-3, 2, 1], "-0.17"), (1, 0, [-2, 0], [-3, 2, 1], "0"),
            (1, 2, [-2, 0], [-3, 2, 100], "0.00"), (1, 2, [-2, 0], [1, 0, 8], "0.13"),
            (0, 2, [-2, 0], [-1, 0, 8], "-0.13"), (1, 1, [-2, 0], [-1, 0, 1000], "0.0"),
            (1, 20, [-1, -1], [0, 1, 1], "1.61803398874989484820"),
            (0, 20, [-1, -1], [0, 1, 1], "-0.61803398874989484820"),
            (0, 20, [-2, 0, 0], [0, 1, 0, 1], "1.25992104989487316477"),
            (0, 20, [1, -3, 0], [0, 1, 0, 1], "-1.87938524157181676811"),
            (1, 20, [1, 0, -10, 0], [0, 1, 0, 0, 1], "-0.31783724519578224473"),
            (3, 20, [1, 0, -10, 0], [0, 1, 0, 0, 1], "3.14626436994197234233"),
            (1, 8, [-2, 88, -968, 0], [0, 1, 0, 0, 1], "0.04538833"),
            (2, 8, [-2, 88, -968, 0], [0, 1, 0, 0, 1], "0.04552115"),
        ]:
            with self.subTest(k=k, n=n, field=field, a=a):
                self.assertEqual(text_of(k, n, field, a), text)

    def test_all_samples(self):
        for field, places in ALL:
            for k in range(places):
                for a in rows_for(len(field)):
                    for n in (0, 1, 7, 20):
                        if has_no_x(a):
                            text = rounded(fraction_of(a), n)
                        else:
                            number = value_at(k, field, a).quantize(Decimal(1).scaleb(-n), ROUND_HALF_UP)
                            text = format(number if number else abs(number), "f")
                        self.assertEqual(text_of(k, n, field, a), text, (k, n, field, a))

    def test_very_near_to_whole_numbers(self):
        for field, small in SMALL:
            for a in near_whole_rows(field, small):
                for k in range(open_of(field)[2]):
                    for n in (0, 3, 20):
                        number = value_at(k, field, a).quantize(Decimal(1).scaleb(-n), ROUND_HALF_UP)
                        text = format(number if number else abs(number), "f")
                        self.assertEqual(text_of(k, n, field, a), text, (k, n, field, a))

    def test_very_near_to_halves(self):
        # Half a whole number and next to nothing more or less.
        for field, small in SMALL:
            for a in near_whole_rows(field, small):
                a = [2 * a[0] + a[-1]] + [2 * n for n in a[1:-1]] + [2 * a[-1]]
                if max(abs(n) for n in a) <= BIG:
                    for k in range(open_of(field)[2]):
                        number = value_at(k, field, a).quantize(Decimal(1), ROUND_HALF_UP)
                        text = format(number if number else abs(number), "f")
                        self.assertEqual(text_of(k, 0, field, a), text, (k, field, a))

    def test_fractions_of_all_kinds(self):
        for top in range(-60, 61):
            for bottom in (1, 2, 3, 4, 8, 20, 40, 200, 999):
                for n in (0, 1, 2, 3):
                    text = rounded(Fraction(top, bottom), n)
                    self.assertEqual(text_of(0, n, [-5], [top, bottom]), text)
                    self.assertEqual(text_of(1, n, [-2, 0], [top, 0, bottom]), text)

    def test_digits_and_sign_tell_the_same_value(self):
        for field, places in ALL:
            rest = [0] * (len(field) - 1)
            for k in range(places):
                for a in rows_for(len(field)):
                    for n in (0, 2, 20):
                        number = Fraction(text_of(k, n, field, a))
                        half = Fraction(1, 2 * 10 ** n)
                        low, high = [[f.numerator] + rest + [f.denominator] for f in (number - half, number + half)]
                        self.assertIn(sign(k, field, minus(field, a, low)[1:])[1], (0, 1))
                        self.assertIn(sign(k, field, minus(field, a, high)[1:])[1], (0, -1))

    def test_form(self):
        for field, places in ALL:
            for k in range(places):
                for a in rows_for(len(field)):
                    for n in (0, 1, 20):
                        text = text_of(k, n, field, a)
                        self.assertRegex(text, r"\A-?(0|[1-9][0-9]*)" + (r"\.[0-9]{%d}" % n if n else "") + r"\Z")
                        if text.startswith("-"):
                            self.assertTrue(any(c in "123456789" for c in text))

    def test_every_number_of_digits(self):
        for n in range(21):
            text = text_of(0, n, [-5], [-1, 3])
            self.assertEqual(text, "-0." + "3" * n if n else "0")
        for n in (21, 22, 100, 2 ** 31, 2 ** 32 - 2, LAST):
            self.assertEqual(digits(0, n, [-5], [-1, 3]), [-3])
            self.assertEqual(digits(1, n, [-2, 0], [0, 1, 1]), [-3])


class RefusalTest(unittest.TestCase):

    def answers(self, k, n, field, a):
        return [sign(k, field, a), floor(k, field, a), digits(k, n, field, a)]

    def test_places(self):
        for field, places in ALL:
            good = [1] * (len(field) + 1)
            for k in range(places):
                self.assertEqual([answer[0] for answer in self.answers(k, 2, field, good)], [0, 0, 0])
            for k in (places, places + 1, places + 2, 5, 100, 2 ** 31, LAST - 1, LAST):
                for a in (good, [0] * len(field) + [1], [7] + [0] * (len(field) - 1) + [2]):
                    self.assertEqual(self.answers(k, 2, field, a), [[-4]] * 3, (k, field, a))

    def test_no_numbers(self):
        for field in ONE_EACH + ([1, 0], [1, 0, 0, 0]):
            for a in rows_that_are_none(len(field)):
                for k, n in [(0, 0), (0, 21), (9, 1), (LAST, LAST)]:
                    self.assertEqual(self.answers(k, n, field, a), [[-9]] * 3, (k, n, field, a))

    def test_no_fields(self):
        for refusal, fields in [(-1, NO_FIELDS), (-2, PRODUCTS)]:
            for field in fields:
                for a in ([1] * (len(field) + 1), [0] * len(field) + [1], [], [BIG] * 10):
                    for k, n in [(0, 0), (0, 21), (LAST, LAST)]:
                        self.assertEqual(self.answers(k, n, field, a), [[refusal]] * 3, (k, n, field, a))

    def test_first_refusal_counts(self):
        self.assertEqual(self.answers(4, 21, [0, 1001], [1]), [[-1]] * 3)
        self.assertEqual(self.answers(4, 21, [0, 1000], [1]), [[-2]] * 3)
        self.assertEqual(self.answers(4, 21, [3, 1000], [1]), [[-9]] * 3)
        self.assertEqual(self.answers(4, 21, [3, 1000], [1, 1, 1]), [[-4]] * 3)
        self.assertEqual(digits(1, 21, [3, 1000], [1, 1, 1]), [-3])
        self.assertEqual(digits(0, 21, [1, 0], [1, 1, 1]), [-4])

    def test_what_is_handed_in_stays(self):
        for k, n, field, a in [(1, 5, [-2, 0], [6, -4, 2]), (0, 5, [-2, 0], [-6, 0, 4]), (0, 5, [-2, 0], [0, 0, 4]),
                               (2, 5, [-2, 0], [6, -4, 2]), (1, 21, [-2, 0], [6, -4, 2]), (0, 0, [-2, 0], [1]),
                               (0, 0, [0, 0], [1, 1, 1]), (0, 0, [], []), (3, 20, [1, 0, -10, 0], [2, 4, 6, 8, 10])]:
            given = (Fixed(field), Fixed(a))
            first = self.answers(k, n, *given)
            kept = [list(answer) for answer in first]
            self.assertEqual([list(g) for g in given], [field, a])
            for answer in first:
                answer.append(99)
            self.assertEqual(self.answers(k, n, *given), kept)

    def test_kinds(self):
        for k, n, field, a in [(1, 5, [-2, 0], [6, -4, 2]), (0, 5, [-2, 0], [0, 0, 4]), (2, 5, [-2, 0], [6, -4, 2]),
                               (1, 21, [-2, 0], [6, -4, 2]), (0, 0, [-2, 0], [1]), (0, 0, [0, 0], []), (0, 0, [], [])]:
            for answer in self.answers(k, n, field, a):
                self.assertIs(type(answer), list)
                self.assertTrue(all(type(m) is int for m in answer))


if __name__ == "__main__":
    unittest.main()
