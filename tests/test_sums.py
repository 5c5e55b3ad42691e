"""summed and power: points 3 and 4 of the calls, and points 2 and 4 of the promises."""

import itertools
import unittest

from crystalsums.reflections import power, rank, summed
from tests.crystals import (
    CUBE, LARGE, described, prime_for, primitive_roots, scattered_points, sum_at, value,
)

BODY = described(2, (1, 0, 0, 0), (1, 1, 1, 1))
SALT = described(2, (1, 0, 0, 0), (2, 1, 1, 1))
PAIR = {d: described(d, (1, 0, 0, 0), (1, 1, 0, 0)) for d in (3, 4, 5, 6, 8, 12)}

# What it is, points, weights, h, the sum's row, the strength's row.
WRITTEN_OUT = [
    ("d = 1", described(1, (1, 0, 0, 0)), [7], [0, 0, 0], [7], [49]),
    ("d = 1, any index", described(1, (1, 0, 0, 0)), [7], [5, -3, 2], [7], [49]),
    ("d = 1, a negative weight", described(1, (1, 0, 0, 0)), [-3], [1, 0, 0], [-3], [9]),
    ("d = 1, no weights", described(1, (1, 0, 0, 0)), [], [1, 0, 0], [0], [0]),
    ("d = 1, kind beyond the weights", described(1, (3, 0, 0, 0)), [4, 5], [1, 0, 0], [0], [0]),
    ("d = 1, the last weight", described(1, (3, 0, 0, 0)), [4, 5, 6], [1, 0, 0], [6], [36]),
    ("d = 1, kind 255", described(1, (255, 0, 0, 0)), [0] * 254 + [9], [0, 0, 1], [9], [81]),
    ("d = 1, kind 255 beyond 254 weights", described(1, (255, 0, 0, 0)), [9] * 254, [0, 0, 1], [0], [0]),
    ("d = 1, the largest weight", described(1, (1, 0, 0, 0)), [LARGE], [LARGE, -LARGE, LARGE], [LARGE], [LARGE ** 2]),
    ("d = 1, the least weight", described(1, (1, 0, 0, 0)), [-LARGE], [0, 0, 0], [-LARGE], [LARGE ** 2]),

    ("d = 2, they meet", BODY, [1], [1, 1, 0], [2], [4]),
    ("d = 2, they are opposite", BODY, [1], [1, 0, 0], [0], [0]),
    ("d = 2, opposite, a negative index", BODY, [1], [0, -1, 0], [0], [0]),
    ("d = 2, two kinds, they meet", SALT, [5, 3], [1, 1, 0], [8], [64]),
    ("d = 2, two kinds, opposite", SALT, [5, 3], [1, 0, 0], [2], [4]),
    ("d = 2, two kinds, the second the larger", SALT, [3, 5], [1, 1, 1], [-2], [4]),
    ("d = 2, two kinds, a negative weight", SALT, [5, -3], [1, 0, 0], [8], [64]),
    ("d = 2, the second kind has no weight", SALT, [5], [1, 0, 0], [5], [25]),
    ("d = 2, no weights", SALT, [], [1, 0, 0], [0], [0]),
    ("d = 2, more weights than kinds", SALT, [5, 3, 100, -100], [1, 0, 0], [2], [4]),

    ("d = 3, z", described(3, (1, 1, 0, 0)), [2], [1, 0, 0], [0, 2], [4, 0]),
    ("d = 3, z^2", described(3, (1, 1, 0, 0)), [2], [2, 0, 0], [-2, -2], [4, 0]),
    ("d = 3, z^-1", described(3, (1, 1, 0, 0)), [2], [-1, 0, 0], [-2, -2], [4, 0]),
    ("d = 3, z^-2", described(3, (1, 1, 0, 0)), [2], [-2, 0, 0], [0, 2], [4, 0]),
    ("d = 3, z^3", described(3, (1, 1, 0, 0)), [2], [3, 0, 0], [2, 0], [4, 0]),
    ("d = 3, 1 + z", PAIR[3], [1], [1, 0, 0], [1, 1], [1, 0]),
    ("d = 3, 5 - 2z", described(3, (1, 0, 0, 0), (2, 1, 0, 0)), [5, -2], [1, 0, 0], [5, -2], [39, 0]),
    ("d = 3, three roots", described(3, (1, 0, 0, 0), (1, 2, 1, 1), (1, 1, 2, 2)), [4], [1, 0, 0], [0, 0], [0, 0]),
    ("d = 3, three at one", described(3, (1, 0, 0, 0), (1, 2, 1, 1), (1, 1, 2, 2)), [4], [-1, 1, 1], [12, 0], [144, 0]),

    ("d = 4, 3 + 2z", described(4, (1, 0, 0, 0), (2, 1, 1, 1)), [3, 2], [1, 0, 0], [3, 2], [13, 0]),
    ("d = 4, 3 + 2z^-1", described(4, (1, 0, 0, 0), (2, 1, 1, 1)), [3, 2], [-1, 0, 0], [3, -2], [13, 0]),
    ("d = 4, 3 + 2z^2", described(4, (1, 0, 0, 0), (2, 1, 1, 1)), [3, 2], [1, 1, 0], [1, 0], [1, 0]),
    ("d = 4, several with one e", described(4, (1, 1, 0, 0), (1, 0, 1, 0), (1, 0, 0, 1)), [1], [1, 1, 1], [0, 3], [9, 0]),
    ("d = 4, several with one e by d", described(4, (1, 1, 0, 0), (2, 0, 3, 2), (3, 2, 0, 3)), [1, 10, 100], [1, 1, 1],
     [0, 111], [12321, 0]),
    ("d = 4, each number of h by its own of the point", described(4, (1, 1, 0, 0), (2, 0, 1, 0), (3, 0, 0, 1)),
     [1, 10, 100], [0, 1, 2], [-99, 10], [9901, 0]),

    ("d = 5, 1 + z", PAIR[5], [1], [1, 0, 0], [1, 1, 0, 0], [1, 0, -1, -1]),
    ("d = 5, 1 + z^2", PAIR[5], [1], [2, 0, 0], [1, 0, 1, 0], [2, 0, 1, 1]),
    ("d = 5, 1 + z^4", PAIR[5], [1], [-1, 0, 0], [0, -1, -1, -1], [1, 0, -1, -1]),

    ("d = 6, z", described(6, (1, 1, 0, 0)), [1], [1, 0, 0], [0, 1], [1, 0]),
    ("d = 6, z^2", described(6, (1, 1, 0, 0)), [1], [2, 0, 0], [-1, 1], [1, 0]),
    ("d = 6, z^3", described(6, (1, 1, 0, 0)), [1], [3, 0, 0], [-1, 0], [1, 0]),
    ("d = 6, z^-1", described(6, (1, 1, 0, 0)), [1], [-1, 0, 0], [1, -1], [1, 0]),
    ("d = 6, 1 + z", PAIR[6], [1], [1, 0, 0], [1, 1], [3, 0]),
    ("d = 6, 1 - z + z^2", described(6, (1, 0, 0, 0), (2, 1, 0, 0), (1, 2, 0, 0)), [1, -1], [1, 0, 0], [0, 0], [0, 0]),

    ("d = 8, 1 + z", PAIR[8], [1], [1, 0, 0], [1, 1, 0, 0], [2, 1, 0, -1]),
    ("d = 8, 1 + z^3", PAIR[8], [1], [3, 0, 0], [1, 0, 0, 1], [2, -1, 0, 1]),
    ("d = 12, 1 + z", PAIR[12], [1], [1, 0, 0], [1, 1, 0, 0], [2, 2, 0, -1]),
]

ORDERS = (1, 5, 12, 105, 120)
INDICES = [[0, 0, 0], [1, 0, 0], [0, -1, 2], [7, 11, -13], [-60, 35, 21], [LARGE, -LARGE, LARGE - 1]]
WEIGHTS = [6, -1, 8, 0, -17]


def negative(h):
    return [-number for number in h]


class WrittenOut(unittest.TestCase):
    def test_sums(self):
        for name, points, weights, h, row, strength in WRITTEN_OUT:
            with self.subTest(name):
                self.assertEqual(summed(CUBE, points, weights, h), [0] + row)

    def test_strengths(self):
        for name, points, weights, h, row, strength in WRITTEN_OUT:
            with self.subTest(name):
                self.assertEqual(power(CUBE, points, weights, h), [0] + strength)

    def test_the_cell_and_the_order_of_points_do_not_matter(self):
        for cell in ([2, 2, 2, 0, 0, 0, 2], [3, 4, 5, -1, 1, 1, 7], [LARGE, LARGE, LARGE, 0, 0, 0, LARGE]):
            for name, points, weights, h, row, strength in WRITTEN_OUT:
                with self.subTest(name, cell=cell):
                    found = [points[k:k + 4] for k in range(1, len(points), 4)]
                    turned = described(points[0], *reversed(found))
                    self.assertEqual(summed(cell, turned, weights, h), [0] + row)
                    self.assertEqual(power(cell, turned, weights, h), [0] + strength)


class ByTheDefinition(unittest.TestCase):
    def check(self, points, weights, indices):
        d = points[0]
        p = prime_for(d)
        roots = primitive_roots(d, p)
        for h in indices:
            row = summed(CUBE, points, weights, h)
            strength = power(CUBE, points, weights, h)
            with self.subTest(d=d, h=h):
                self.assertEqual((row[0], strength[0]), (0, 0))
                self.assertEqual((len(row) - 1, len(strength) - 1), (len(roots), len(roots)))
                # Nothing is hidden by going modulo p.
                self.assertLess(max(abs(number) for number in row + strength), p // 2)
                for root in roots:
                    straight = sum_at(points, weights, h, root, p)
                    conjugate = sum_at(points, weights, negative(h), root, p)
                    self.assertEqual(value(row[1:], root, p), straight)
                    self.assertEqual(value(strength[1:], root, p), straight * conjugate % p)

    def test_every_order(self):
        for d in range(1, 121):
            self.check(scattered_points(d, 7, 6), WEIGHTS, [[1, 0, 0], [-3, 7, 5]])

    def test_many_points_and_indices(self):
        for d in ORDERS:
            self.check(scattered_points(d, 64, 6), WEIGHTS, INDICES)

    def test_the_largest_weights(self):
        for d in ORDERS:
            self.check(scattered_points(d, 64, 255), [LARGE, -LARGE] * 127 + [LARGE], INDICES)


class Promises(unittest.TestCase):
    def test_rows_are_as_long_as_rank_says(self):
        for d in range(1, 121):
            points = scattered_points(d, 9, 5)
            with self.subTest(d=d):
                self.assertEqual(len(summed(CUBE, points, WEIGHTS, [1, -2, 3])) - 1, rank(d)[1])
                self.assertEqual(len(power(CUBE, points, WEIGHTS, [1, -2, 3])) - 1, rank(d)[1])
                self.assertEqual(summed(CUBE, points, [], [1, -2, 3]), [0] + [0] * rank(d)[1])
                self.assertEqual(power(CUBE, points, [], [1, -2, 3]), [0] + [0] * rank(d)[1])

    def test_the_sum_of_the_negative_index_is_the_conjugate(self):
        for d in ORDERS:
            points = scattered_points(d, 64, 6)
            p = prime_for(d)
            for h in INDICES:
                row = summed(CUBE, points, WEIGHTS, h)[1:]
                other = summed(CUBE, points, WEIGHTS, negative(h))[1:]
                with self.subTest(d=d, h=h):
                    for root in primitive_roots(d, p):
                        self.assertEqual(value(other, root, p), value(row, pow(root, -1, p), p))

    def test_an_index_and_its_negative_have_one_strength(self):
        for d in ORDERS:
            points = scattered_points(d, 64, 6)
            for h in INDICES:
                with self.subTest(d=d, h=h):
                    self.assertEqual(power(CUBE, points, WEIGHTS, h), power(CUBE, points, WEIGHTS, negative(h)))

    def test_indices_that_differ_by_d_have_one_sum(self):
        for d in ORDERS:
            points = scattered_points(d, 64, 6)
            for h in INDICES[:-1]:
                moved = [h[0] + d, h[1] - 2 * d, h[2] + 5 * d]
                with self.subTest(d=d, h=h):
                    self.assertEqual(summed(CUBE, points, WEIGHTS, h), summed(CUBE, points, WEIGHTS, moved))
                    self.assertEqual(power(CUBE, points, WEIGHTS, h), power(CUBE, points, WEIGHTS, moved))

    def test_all_strengths_together(self):
        for d in (1, 2, 3, 4, 5, 6, 8):
            points = scattered_points(d, 10, 6)
            squares = sum(WEIGHTS[kind - 1] ** 2 for kind in points[1::4] if kind <= len(WEIGHTS))
            rows = [power(CUBE, points, WEIGHTS, list(h))[1:] for h in itertools.product(range(d), repeat=3)]
            with self.subTest(d=d):
                self.assertGreater(squares, 0)
                together = [sum(numbers) for numbers in zip(*rows)]
                self.assertEqual(together, [d ** 3 * squares] + [0] * (rank(d)[1] - 1))


if __name__ == "__main__":
    unittest.main()
