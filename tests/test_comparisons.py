"""zero and equal: points 5 and 6 of the calls."""

import itertools
import unittest

from crystalsums.reflections import equal, power, summed, zero
from tests.crystals import CUBE, LARGE, described, prime_for, primitive_roots, scattered_points, sum_at

BODY = described(2, (1, 0, 0, 0), (1, 1, 1, 1))
SALT = described(2, (1, 0, 0, 0), (2, 1, 1, 1))
THREE = described(3, (1, 0, 0, 0), (1, 2, 1, 1), (1, 1, 2, 2))
# 1 - z + z^2 is the 6th cyclotomic polynomial, 1 - z^2 + z^4 the 12th.
SIXTH = described(6, (1, 0, 0, 0), (2, 1, 0, 0), (1, 2, 0, 0))
TWELFTH = described(12, (1, 0, 0, 0), (2, 2, 0, 0), (1, 4, 0, 0))
FOURTH = described(4, (1, 0, 0, 0), (2, 1, 0, 0))
# 3 + 4z - 1 - z^2, which is 3 + 4z, for 1 0 0; 3 + 4 - 1 - 1 for 0 0 0.
PYTHAGORAS = described(4, (1, 0, 0, 0), (2, 1, 0, 0), (3, 0, 1, 0), (3, 2, 0, 0))
PAIR = {d: described(d, (1, 0, 0, 0), (1, 1, 0, 0)) for d in (5, 8, 12)}
ONE = {d: described(d, (1, 1, 0, 0)) for d in (2, 5, 12, 105, 120)}

NOTHING = [
    ("opposite", BODY, [1], [1, 0, 0]),
    ("opposite, a negative index", BODY, [7], [0, -3, 0]),
    ("opposite, the largest weight", BODY, [LARGE], [LARGE, 0, 0]),
    ("opposite weights that meet", SALT, [4, -4], [1, 1, 0]),
    ("equal weights of two kinds", SALT, [4, 4], [1, 1, 1]),
    ("three roots of order 3", THREE, [1], [1, 0, 0]),
    ("three roots of order 3, a negative weight and index", THREE, [-5], [-1, 0, 0]),
    ("the 6th cyclotomic polynomial", SIXTH, [1, -1], [1, 0, 0]),
    ("the 6th cyclotomic polynomial, conjugate", SIXTH, [3, -3], [-1, 0, 0]),
    ("the 12th cyclotomic polynomial", TWELFTH, [1, -1], [1, 0, 0]),
    ("the 12th cyclotomic polynomial at another root", TWELFTH, [1, -1], [5, 0, 0]),
    ("all roots of order 5", described(5, *[(1, 0, 0, k) for k in range(5)]), [2], [4, 4, 2]),
    ("roots of order 5 and 3", described(15, *[(1, 3 * k, 1, 0) for k in range(5)], *[(2, 5 * k, 2, 0) for k in range(3)]),
     [9, -2], [1, 0, 0]),
    ("weights 0", SALT, [0, 0], [1, 0, 0]),
    ("no weights", SALT, [], [1, 1, 0]),
    ("no weights, d = 1", described(1, (1, 0, 0, 0)), [], [0, 0, 0]),
    ("only kinds beyond the weights", described(4, (3, 0, 0, 0), (4, 1, 0, 0)), [5, 6], [1, 0, 0]),
]

SOMETHING = [
    ("they meet", BODY, [1], [1, 1, 0]),
    ("the index 0 0 0", BODY, [-1], [0, 0, 0]),
    ("two kinds", SALT, [5, 3], [1, 0, 0]),
    ("differing by 1", SALT, [LARGE, LARGE - 1], [1, 0, 0]),
    ("weights that make 0 but don't meet", SALT, [4, -4], [1, 0, 0]),
    ("three at one", THREE, [1], [-1, 1, 1]),
    ("equal weights, where opposite ones make nothing", SIXTH, [1, 1], [1, 0, 0]),
    ("1 - z + z^2 at a root of order 3", SIXTH, [1, -1], [2, 0, 0]),
    ("1 - z + z^2 at -1", SIXTH, [1, -1], [3, 0, 0]),
    ("1 - z^2 + z^4 at a root of order 6", TWELFTH, [1, -1], [2, 0, 0]),
    ("1 - z^2 + z^4 at a root of order 4", TWELFTH, [1, -1], [3, 0, 0]),
    ("the second kind has no weight", SIXTH, [1], [1, 0, 0]),
    ("a row that begins with 0", described(4, (1, 1, 0, 0)), [2], [1, 0, 0]),
    ("a row that only ends with something", described(12, (1, 3, 0, 0)), [2], [1, 0, 0]),
    ("d = 1", described(1, (1, 0, 0, 0)), [1], [4, 5, 6]),
    ("four of five roots", described(5, *[(1, 0, 0, k) for k in range(1, 5)]), [2], [4, 4, 2]),
]

# What it is, points, weights, h, k.
SAME = [
    ("one index twice", FOURTH, [3, 2], [1, 0, 0], [1, 0, 0]),
    ("h and -h", FOURTH, [3, 2], [1, 0, 0], [-1, 0, 0]),
    ("h and -h, d = 5", PAIR[5], [1], [2, 3, 4], [-2, -3, -4]),
    ("differing by d", FOURTH, [3, 2], [1, 0, 0], [5, -4, 400]),
    ("negative and differing by d", PAIR[12], [1], [1, 0, 0], [11, 0, 0]),
    ("3 + 4z and 5", PYTHAGORAS, [3, 4, -1], [1, 0, 0], [0, 0, 0]),
    ("2 and -2", SALT, [3, 5], [1, 1, 1], [3, 1, 1]),
    ("8 and -8", described(2, (1, 1, 0, 0)), [8], [0, 0, 0], [1, 0, 0]),
    ("both nothing", BODY, [1], [1, 0, 0], [0, 1, 0]),
    ("both nothing by the polynomial", SIXTH, [1, -1], [1, 0, 0], [-1, 0, 0]),
    ("no weights", FOURTH, [], [1, 0, 0], [2, 0, 0]),
    ("d = 1", described(1, (1, 0, 0, 0)), [4], [1, 2, 3], [-7, 0, 5]),
    ("numbers that don't count", PAIR[5], [1], [1, 0, 0], [1, 2, -3]),
] + [(f"one point, d = {d}", points, [-6], [1, 0, 0], [0, 0, 0]) for d, points in ONE.items()]

DIFFERENT = [
    ("3 + 2z and 5", FOURTH, [3, 2], [1, 0, 0], [0, 0, 0]),
    ("3 + 2z and 1", FOURTH, [3, 2], [1, 0, 0], [2, 0, 0]),
    ("8 and 2", SALT, [5, 3], [1, 1, 0], [1, 0, 0]),
    ("something and nothing", BODY, [1], [1, 1, 0], [1, 0, 0]),
    ("two roots of order 5", PAIR[5], [1], [1, 0, 0], [2, 0, 0]),
    ("strengths that begin alike, d = 8", PAIR[8], [1], [1, 0, 0], [3, 0, 0]),
    ("two roots of order 12", PAIR[12], [1], [1, 0, 0], [5, 0, 0]),
    ("differing by 1", SALT, [LARGE, LARGE - 1], [1, 0, 0], [1, 1, 0]),
    ("3 + 4z and 7", PYTHAGORAS, [3, 4], [1, 0, 0], [0, 0, 0]),
]

WEIGHTS = [6, -1, 8, 0, -17]


class Zero(unittest.TestCase):
    def test_nothing(self):
        for name, points, weights, h in NOTHING:
            with self.subTest(name):
                self.assertEqual(zero(CUBE, points, weights, h), [0, 1])

    def test_something(self):
        for name, points, weights, h in SOMETHING:
            with self.subTest(name):
                self.assertEqual(zero(CUBE, points, weights, h), [0, 0])

    def test_it_is_nothing_just_if_the_sum_and_the_strength_are(self):
        for name, points, weights, h in NOTHING + SOMETHING:
            with self.subTest(name):
                nothing = zero(CUBE, points, weights, h) == [0, 1]
                self.assertEqual(nothing, not any(summed(CUBE, points, weights, h)))
                self.assertEqual(nothing, not any(power(CUBE, points, weights, h)))

    def test_by_the_definition(self):
        met = set()
        for d in (1, 2, 3, 4, 6, 12):
            points = scattered_points(d, 4, 2)
            p = prime_for(d)
            roots = primitive_roots(d, p)
            for h in itertools.product(range(-1, min(d, 5)), repeat=3):
                for weights in ([1, 1], [1, -1], [2, -1]):
                    with self.subTest(d=d, h=h, weights=weights):
                        nothing = all(sum_at(points, weights, h, root, p) == 0 for root in roots)
                        met.add(nothing)
                        self.assertEqual(zero(CUBE, points, weights, list(h)), [0, 1 if nothing else 0])
        self.assertEqual(met, {True, False})


class Equal(unittest.TestCase):
    def test_the_same(self):
        for name, points, weights, h, k in SAME:
            with self.subTest(name):
                self.assertEqual(equal(CUBE, points, weights, h, k), [0, 1])
                self.assertEqual(equal(CUBE, points, weights, k, h), [0, 1])

    def test_not_the_same(self):
        for name, points, weights, h, k in DIFFERENT:
            with self.subTest(name):
                self.assertEqual(equal(CUBE, points, weights, h, k), [0, 0])
                self.assertEqual(equal(CUBE, points, weights, k, h), [0, 0])

    def test_some_of_the_same_have_different_sums(self):
        names = ["h and -h", "3 + 4z and 5", "8 and -8"] + [f"one point, d = {d}" for d in ONE]
        found = [case for case in SAME if case[0] in names]
        self.assertEqual(len(found), len(names))
        for name, points, weights, h, k in found:
            with self.subTest(name):
                self.assertNotEqual(summed(CUBE, points, weights, h), summed(CUBE, points, weights, k))

    def test_an_index_its_negative_and_those_that_differ_by_d(self):
        for d in (1, 5, 12, 105, 120):
            points = scattered_points(d, 64, 6)
            for h in ([1, 0, 0], [7, 11, -13], [-60, 35, 21]):
                negative = [-number for number in h]
                moved = [h[0] - d, h[1] + 3 * d, h[2] + d]
                with self.subTest(d=d, h=h):
                    self.assertEqual(equal(CUBE, points, WEIGHTS, h, negative), [0, 1])
                    self.assertEqual(equal(CUBE, points, WEIGHTS, h, moved), [0, 1])

    def test_it_says_what_power_says(self):
        met = set()
        for d in (2, 3, 4, 5, 6):
            points = scattered_points(d, 5, 3)
            indices = [list(h) for h in itertools.product(range(-1, 2), repeat=3)]
            strengths = [power(CUBE, points, WEIGHTS, h) for h in indices]
            for h, first in zip(indices, strengths):
                for k, second in zip(indices, strengths):
                    with self.subTest(d=d, h=h, k=k):
                        met.add(first == second)
                        self.assertEqual(equal(CUBE, points, WEIGHTS, h, k), [0, 1 if first == second else 0])
        self.assertEqual(met, {True, False})


if __name__ == "__main__":
    unittest.main()
