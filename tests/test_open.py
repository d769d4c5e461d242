"""open_of: which fields there are, their degrees and places."""

import unittest
from itertools import product

from rootrows.numbers import open_of
from samples import BIG, FIELDS, Fixed, NO_FIELDS, PRODUCTS


def times(f, g):
    answer = [0] * (len(f) + len(g) - 1)
    for i, m in enumerate(f):
        for k, n in enumerate(g):
            answer[i + k] += m * n
    return answer


def products_of_degree(d, size):
    """The rows of all products of degree d with numbers up to size: by multiplying out, not by dividing."""
    # No root of such a polynomial is greater in size than 1 + size.
    bound = 1 + size
    linear = [[q, 1] for q in range(-bound, bound + 1)]
    square = [[q, p, 1] for q in range(-bound ** 2, bound ** 2 + 1) for p in range(-2 * bound, 2 * bound + 1)]
    found = set()
    if d == 2:
        pairs = product(linear, linear)
    elif d == 3:
        pairs = product(linear, square)
    else:
        pairs = product(square, square)
    for f, g in pairs:
        answer = times(f, g)
        if all(abs(n) <= size for n in answer):
            found.add(tuple(answer[:-1]))
    return found


def places_by_discriminant(field):
    """How many different real roots f has, if none is double, by the formulas for each degree."""
    d = len(field)
    if d == 1:
        return 1
    if d == 2:
        c, b = field
        return 2 if b * b - 4 * c > 0 else 0
    if d == 3:
        e, c, b = field
        return 3 if b*b*c*c - 4*c**3 - 4*b**3*e + 18*b*c*e - 27*e*e > 0 else 1
    e, u, c, b = field
    discriminant = (256*e**3 - 192*b*u*e**2 - 128*c**2*e**2 + 144*c*u**2*e - 27*u**4 + 144*b**2*c*e**2
                    - 6*b**2*u**2*e - 80*b*c**2*u*e + 18*b*c*u**3 + 16*c**4*e - 4*c**3*u**2 - 27*b**4*e**2
                    + 18*b**3*c*u*e - 4*b**3*u**3 - 4*b**2*c**3*e + b**2*c**2*u**2)
    if discriminant < 0:
        return 2
    return 4 if 8*c - 3*b*b < 0 and 64*e - 16*c*c + 16*b*b*c - 16*b*u - 3*b**4 < 0 else 0


class OpenTest(unittest.TestCase):

    def test_fields(self):
        for field, places in FIELDS:
            with self.subTest(field=field):
                self.assertEqual(open_of(field), [0, len(field), places])

    def test_samples_have_every_number_of_places(self):
        self.assertEqual({(len(field), places) for field, places in FIELDS},
                         {(1, 1), (2, 0), (2, 2), (3, 1), (3, 3), (4, 0), (4, 2), (4, 4)})

    def test_degree_1_is_never_a_product(self):
        for c in range(-1000, 1001):
            self.assertEqual(open_of([c]), [0, 1, 1])

    def test_products(self):
        for field in PRODUCTS:
            with self.subTest(field=field):
                self.assertEqual(open_of(field), [-2])

    def test_no_fields(self):
        for field in NO_FIELDS:
            with self.subTest(field=field):
                self.assertEqual(open_of(field), [-1])

    def test_edges_of_size_at_each_number(self):
        for d in range(1, 5):
            for k in range(d):
                for n, allowed in [(-1000, True), (1000, True), (-1001, False), (1001, False), (BIG, False),
                                   (-BIG, False), (2 ** 32, False), (2 ** 62, False)]:
                    field = [1] * d
                    field[k] = n
                    with self.subTest(field=field):
                        self.assertEqual(open_of(field)[0] != -1, allowed)

    def test_lengths(self):
        # x^n - 2 is never a product.
        for n in range(11):
            self.assertEqual(open_of(([-2] + [0] * 9)[:n])[0], 0 if 1 <= n <= 4 else -1)

    def test_form_counts_before_product(self):
        for field in [[0, 1001], [1001, 0, -1001, 0], [0, 0, 0, 0, 0], [4, 0, 0, 0, 0], [0, 0, BIG, 0]]:
            self.assertEqual(open_of(field), [-1])

    def test_all_small_fields(self):
        for d, size in [(2, 12), (3, 4), (4, 2)]:
            known = products_of_degree(d, size)
            if d == 4:
                # A linear factor and one of degree 3: a whole root.
                known |= {c for c in product(range(-size, size + 1), repeat=4)
                          if any(r ** 4 + sum(n * r ** k for k, n in enumerate(c)) == 0 for r in range(-3, 4))}
            for c in product(range(-size, size + 1), repeat=d):
                field = list(c)
                asked = [-2] if c in known else [0, d, places_by_discriminant(field)]
                self.assertEqual(open_of(field), asked, field)

    def test_great_products(self):
        quadratics = [[q, p, 1] for q in (-31, -7, -1, 1, 2, 25, 31) for p in (-30, -5, 0, 1, 6, 30)]
        for f in quadratics:
            for g in quadratics + [[r, 1] for r in (-31, -1, 1, 30)]:
                field = times(f, g)[:-1]
                if max(abs(n) for n in field) <= 1000:
                    self.assertEqual(open_of(field), [-2], field)

    def test_places_of_great_fields(self):
        # A fixed walk through fields of all sizes up to 1,000.
        state = 1
        kinds = set()
        for k in range(3000):
            field = []
            for size in (1000, 1000, 1000, 60)[:2 + k % 3]:
                state = state * 48271 % (2 ** 31 - 1)
                field.append(state % (2 * size + 1) - size)
            answer = open_of(field)
            if answer != [-2]:
                self.assertEqual(answer, [0, len(field), places_by_discriminant(field)], field)
                kinds.add(tuple(answer))
        self.assertEqual(len(kinds), 7)

    def test_field_stays_and_answer_is_the_same_again(self):
        for field in [field for field, places in FIELDS] + PRODUCTS + NO_FIELDS:
            given = Fixed(field)
            first = open_of(given)
            kept = list(first)
            self.assertEqual(list(given), field)
            first.append(99)
            self.assertEqual(open_of(given), kept)

    def test_kinds(self):
        for field in [[-2, 0], [0, 0], []]:
            answer = open_of(field)
            self.assertIs(type(answer), list)
            self.assertTrue(all(type(n) is int for n in answer))


if __name__ == "__main__":
    unittest.main()
