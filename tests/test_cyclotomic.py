"""rank and poly: points 1 and 2 of the calls, and promise 1."""

import math
import unittest

from crystalsums.reflections import poly, rank

ORDERS = range(1, 121)
REFUSED = [0, 121, 122, 240, 255, 256, 257, 65536 + 12, 2147483648, 4294967295]


def product(a, b):
    answer = [0] * (len(a) + len(b) - 1)
    for i, x in enumerate(a):
        for j, y in enumerate(b):
            answer[i + j] += x * y
    return answer


def from_powers(degree, coefficients):
    answer = [0] * (degree + 1)
    for power, coefficient in coefficients.items():
        answer[power] = coefficient
    return answer


class EveryOrder(unittest.TestCase):
    def test_answers_begin_with_0(self):
        for d in ORDERS:
            with self.subTest(d=d):
                self.assertEqual(poly(d)[0], 0)
                self.assertEqual(rank(d)[0], 0)

    def test_highest_coefficient_is_1(self):
        for d in ORDERS:
            with self.subTest(d=d):
                self.assertEqual(poly(d)[-1], 1)

    def test_rank_is_one_number_and_poly_has_one_coefficient_more(self):
        for d in ORDERS:
            with self.subTest(d=d):
                self.assertEqual(len(rank(d)), 2)
                self.assertEqual(len(poly(d)[1:]), rank(d)[1] + 1)

    def test_degree_counts_the_numbers_prime_to_d(self):
        for d in ORDERS:
            with self.subTest(d=d):
                prime_to_d = [k for k in range(1, d + 1) if math.gcd(k, d) == 1]
                self.assertEqual(rank(d), [0, len(prime_to_d)])

    def test_polynomials_of_the_divisors_make_the_power_less_one(self):
        for d in ORDERS:
            with self.subTest(d=d):
                made = [1]
                for k in range(1, d + 1):
                    if d % k == 0:
                        made = product(made, poly(k)[1:])
                self.assertEqual(made, [-1] + [0] * (d - 1) + [1])


class WrittenOut(unittest.TestCase):
    def test_ranks(self):
        ranks = {1: 1, 2: 1, 3: 2, 4: 2, 5: 4, 6: 2, 8: 4, 9: 6, 12: 4, 105: 48, 113: 112, 119: 96, 120: 32}
        for d, degree in ranks.items():
            with self.subTest(d=d):
                self.assertEqual(rank(d), [0, degree])

    def test_small_orders(self):
        polynomials = {
            1: [-1, 1],
            2: [1, 1],
            3: [1, 1, 1],
            4: [1, 0, 1],
            5: [1, 1, 1, 1, 1],
            6: [1, -1, 1],
            7: [1, 1, 1, 1, 1, 1, 1],
            8: [1, 0, 0, 0, 1],
            9: [1, 0, 0, 1, 0, 0, 1],
            10: [1, -1, 1, -1, 1],
            12: [1, 0, -1, 0, 1],
            15: [1, -1, 0, 1, -1, 1, 0, -1, 1],
            30: [1, 1, 0, -1, -1, -1, 0, 1, 1],
        }
        for d, coefficients in polynomials.items():
            with self.subTest(d=d):
                self.assertEqual(poly(d), [0] + coefficients)

    def test_a_large_prime(self):
        self.assertEqual(poly(113), [0] + [1] * 113)

    def test_105_has_the_first_coefficient_beyond_1(self):
        self.assertEqual(poly(105), [
            0,
            1, 1, 1, 0, 0, -1, -1, -2, -1, -1, 0, 0,
            1, 1, 1, 1, 1, 1, 0, 0, -1, 0, -1, 0,
            -1,
            0, -1, 0, -1, 0, 0, 1, 1, 1, 1, 1, 1,
            0, 0, -1, -1, -2, -1, -1, 0, 0, 1, 1, 1,
        ])
        for d in range(1, 105):
            with self.subTest(d=d):
                self.assertLessEqual(max(abs(c) for c in poly(d)[1:]), 1)

    def test_120(self):
        self.assertEqual(poly(120), [0] + from_powers(32, {
            0: 1, 4: 1, 12: -1, 16: -1, 20: -1, 28: 1, 32: 1,
        }))

    def test_the_lowest_power_comes_first(self):
        # Only the first is not the same read backwards.
        self.assertEqual(poly(1), [0, -1, 1])


class Refusals(unittest.TestCase):
    def test_orders_outside_1_to_120(self):
        for d in REFUSED:
            with self.subTest(d=d):
                self.assertEqual(rank(d), [-1])
                self.assertEqual(poly(d), [-1])

    def test_the_edges_within_are_answered(self):
        for d in (1, 120):
            with self.subTest(d=d):
                self.assertEqual(rank(d)[0], 0)
                self.assertEqual(poly(d)[0], 0)


if __name__ == "__main__":
    unittest.main()
