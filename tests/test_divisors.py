"""common_divisor: the same for short numbers and for those that are shortened by many steps at once."""

import unittest
from math import gcd
from random import Random

from rootrows.divisors import common_divisor, without_divisor


class DivisorTest(unittest.TestCase):

    def check(self, m, n):
        answer = gcd(m, n)
        for left, right in [(m, n), (n, m), (-m, n), (n, -m)]:
            self.assertTrue(common_divisor(left, right) == answer, (m.bit_length(), n.bit_length()))

    def test_small(self):
        for m in range(-30, 31):
            for n in range(-30, 31):
                self.assertEqual(common_divisor(m, n), gcd(m, n))

    def test_lengths_of_all_kinds(self):
        source = Random(1)
        for bits in [10, 64, 199, 200, 201, 1999, 2000, 2001, 2100, 4000, 4001, 10000, 30001]:
            for other in [1, bits // 10, bits // 2, bits - 3, bits]:
                for shared in [1, 3, bits // 7 + 1, bits // 2 + 1, bits]:
                    divisor = source.getrandbits(shared) + 1
                    self.check(divisor * source.getrandbits(bits), divisor * source.getrandbits(other))

    def test_many_of_middle_length(self):
        source = Random(2)
        for k in range(300):
            self.check(source.getrandbits(2500 + k), source.getrandbits(2500 + source.randrange(300)))

    def test_equal_numbers_multiples_and_0(self):
        number = 3 ** 5000
        for other in [0, 1, 2, 3, number, number + 1, number - 1, 2 * number, number // 9, number * number, 2 ** 9000]:
            self.check(number, other)

    def test_quotients_of_1_alone(self):
        m, n = 1, 1
        for k in range(9000):
            m, n = m + n, m
            if k % 1000 == 999:
                self.check(m, n)
                self.check(7 ** 300 * m, 7 ** 300 * n)

    def test_great_quotients_in_between(self):
        source = Random(3)
        for place in range(0, 60, 7):
            for bits in (100, 1000, 5000):
                m, n = 6 ** 50, 0
                for k in range(60):
                    quotient = 2 ** bits + source.getrandbits(bits) if k == place else source.getrandbits(90) + 1
                    m, n = quotient * m + n, m
                self.check(m, n)

    def test_powers_of_2_and_their_neighbours(self):
        for m in [2 ** 4000, 2 ** 4000 - 1, 2 ** 4001 + 1]:
            for n in [2 ** 3999, 2 ** 3000 - 1, 2 ** 2000 + 1, 2 ** 2000 - 1, 2 ** 4000 - 2]:
                self.check(m, n)

    def test_without_divisor(self):
        self.assertEqual(without_divisor([]), [])
        self.assertEqual(without_divisor([0, 0]), [0, 0])
        self.assertEqual(without_divisor([6, -4, 0, 10]), [3, -2, 0, 5])
        self.assertEqual(without_divisor([6, -4, 0, 9]), [6, -4, 0, 9])
        great = 10 ** 2000
        self.assertEqual(without_divisor([6 * great, -4 * great, 0, 10 * great]), [3, -2, 0, 5])
        for values in ([1, 2, 3], [2, 4, 6], [0, 0]):
            self.assertIsNot(without_divisor(values), values)


if __name__ == "__main__":
    unittest.main()
