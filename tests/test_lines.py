"""lines: point 9 of the calls, and its refusals."""

import collections
import itertools
import math
import signal
import unittest

from crystalsums.reflections import adjugate, determinant, lines, short_form
from tests.crystals import CUBE, FAR, HEXAGON, LARGE

MOST = 4294967295
CROSSED = [3, 4, 5, -1, 1, 1, 7]

# What it is, bound, cell, each line's length and how many indices.
WRITTEN_OUT = [
    ("a cube, bound 0", 0, CUBE, []),
    ("a cube, bound 1", 1, CUBE, [(1, 6)]),
    ("a cube, bound 2", 2, CUBE, [(1, 6), (2, 12)]),
    ("a cube, bound 3", 3, CUBE, [(1, 6), (2, 12), (3, 8)]),
    ("a cube, no length of 7", 9, CUBE, [(1, 6), (2, 12), (3, 8), (4, 6), (5, 24), (6, 24), (8, 12), (9, 30)]),
    ("a cube, a bound that is no length", 7, CUBE, [(1, 6), (2, 12), (3, 8), (4, 6), (5, 24), (6, 24)]),
    ("the scale does not count", 3, [1, 1, 1, 0, 0, 0, 7], [(1, 6), (2, 12), (3, 8)]),
    ("the largest scale", 3, [1, 1, 1, 0, 0, 0, LARGE], [(1, 6), (2, 12), (3, 8)]),
    ("not in lowest terms", 12, [2, 2, 2, 0, 0, 0, 2], [(4, 6), (8, 12), (12, 8)]),
    ("the adjugate, not the matrix: 15 10 6", 24, [2, 3, 5, 0, 0, 0, 1],
     [(6, 2), (10, 2), (15, 2), (16, 4), (21, 4), (24, 2)]),
    ("15 10 6, one more", 25, [2, 3, 5, 0, 0, 0, 1],
     [(6, 2), (10, 2), (15, 2), (16, 4), (21, 4), (24, 2), (25, 4)]),
    ("15 10 6, another order", 16, [5, 2, 3, 0, 0, 0, 1], [(6, 2), (10, 2), (15, 2), (16, 4)]),
    ("a hexagon: 6 6 3 and 3 across", 6, HEXAGON, [(3, 2), (6, 6)]),
    ("a hexagon, further", 18, HEXAGON, [(3, 2), (6, 6), (9, 12), (12, 2), (18, 18)]),
    ("across by g12", 6, [2, 2, 3, 0, 0, 1, 1], [(3, 2), (6, 6)]),
    ("across by g13", 6, [2, 3, 2, 0, 1, 0, 1], [(3, 2), (6, 6)]),
    ("across by g23", 6, [3, 2, 2, 1, 0, 0, 1], [(3, 2), (6, 6)]),
    ("a rhombohedron: 3 3 3 and -1 three times", 4, [2, 2, 2, 1, 1, 1, 1], [(3, 8), (4, 6)]),
    ("a rhombohedron, the faces' way", 8, [3, 3, 3, -1, -1, -1, 1], [(8, 12)]),
    ("a bound less than any length", 2, [2, 2, 2, 1, 1, 1, 1], []),
    ("a bound that is the least length", 3, [2, 2, 2, 1, 1, 1, 1], [(3, 8)]),
    ("one long way", 9, [LARGE, 1, 1, 0, 0, 0, 1], [(1, 2), (4, 2), (9, 2)]),
    ("one long way, the second", 9, [1, LARGE, 1, 0, 0, 0, 1], [(1, 2), (4, 2), (9, 2)]),
    ("one long way, the third", 9, [1, 1, LARGE, 0, 0, 0, 1], [(1, 2), (4, 2), (9, 2)]),
    ("one long way, just up to the others", LARGE, [LARGE, 1024, 1024, 0, 0, 0, 1], []),
    ("two long ways", 4 * LARGE, [LARGE, LARGE, 1, 0, 0, 0, 1], [(LARGE, 4), (2 * LARGE, 4), (4 * LARGE, 4)]),
    ("three long ways", MOST, [LARGE, LARGE, LARGE, 0, 0, 0, 1], []),
    ("the largest bound is just a length", MOST, [65535, 65537, LARGE, 0, 0, 0, 1], [(MOST, 2)]),
    ("one less than that", MOST - 1, [65535, 65537, LARGE, 0, 0, 0, 1], []),
    ("the largest bound, a cube just within", MOST, [65535] * 3 + [0, 0, 0, 1], [(65535 ** 2, 6)]),
    ("the largest bound, a cube just beyond", MOST, [65536] * 3 + [0, 0, 0, 1], []),
    ("the largest bound, a cube", MOST, [30000] * 3 + [0, 0, 0, 1],
     [(9 * 10 ** 8, 6), (18 * 10 ** 8, 12), (27 * 10 ** 8, 8), (36 * 10 ** 8, 6)]),
]

# The bound and a cell with exactly 4,096 indices up to it, and one more length just behind it.
JUST_NOT_TOO_MANY = [
    (428, [1, 3, 3, 0, 0, 0, 1]),
    (428, [1, 4, 4, 1, 1, 1, 9]),
    (604, [2, 3, 3, 0, 1, 0, 1]),
    (632, [2, 2, 5, -1, 1, 0, 1]),
    (1385, [3, 4, 5, 1, 1, 0, LARGE]),
    (1993, [4, 5, 5, 1, 1, 0, 1]),
]

# Which column has a multiple of which other one added.
STEPS = [(0, 1), (1, 2), (2, 0), (1, 0), (2, 1), (0, 2)]


def matrix_of(cell):
    return [[cell[0], cell[5], cell[4]], [cell[5], cell[1], cell[3]], [cell[4], cell[3], cell[2]]]


def cell_of(g, scale=1):
    return [g[0][0], g[1][1], g[2][2], g[1][2], g[0][2], g[0][1], scale]


def minor(g, row, column):
    kept = [[g[i][j] for j in range(3) if j != column] for i in range(3) if i != row]
    return kept[0][0] * kept[1][1] - kept[0][1] * kept[1][0]


def by_definition(bound, cell):
    """The answer, by going through all indices whose numbers are not too large for the bound."""
    g = matrix_of(cell)
    a = [[(-1) ** (i + j) * minor(g, j, i) for j in range(3)] for i in range(3)]
    determinant = sum(g[0][k] * a[k][0] for k in range(3))
    # No number of h is, squared, more than h A h times G's number of its place, over G's determinant.
    most = [math.isqrt(bound * g[k][k] // determinant) for k in range(3)]
    counts = collections.Counter()
    for x, y, z in itertools.product(*[range(-m, m + 1) for m in most]):
        length = (a[0][0] * x * x + a[1][1] * y * y + a[2][2] * z * z
                  + 2 * (a[1][2] * y * z + a[0][2] * x * z + a[0][1] * x * y))
        if length <= bound and (x, y, z) != (0, 0, 0):
            counts[length] += 1
    if sum(counts.values()) > 4096:
        return [-9]
    return [0] + [number for length in sorted(counts) for number in (length, counts[length])]


def turned(g, column, other, factor):
    """The matrix by another basis, in which the column has had a multiple of the other one added."""
    basis = [[1 if i == j else 0 for j in range(3)] for i in range(3)]
    basis[other][column] = factor
    return [[sum(basis[i][a] * g[i][j] * basis[j][b] for i in range(3) for j in range(3)) for b in range(3)]
            for a in range(3)]


def far_from_right_angled(cell, turn, factor):
    """The same lattice by other columns, turned again and again as far as the numbers stay within their bounds."""
    g = matrix_of(cell)
    for times in (factor, 1):
        for step in range(turn, turn + 36):
            tried = turned(g, *STEPS[step % len(STEPS)], times)
            if max(abs(number) for row in tried for number in row) <= LARGE:
                g = tried
    return cell_of(g)


def right_cells(numbers, others):
    for cell in itertools.product(numbers, numbers, numbers, others, others, others):
        g = matrix_of(cell)
        if minor(g, 2, 2) > 0 and g[0][0] * minor(g, 0, 0) - g[0][1] * minor(g, 0, 1) + g[0][2] * minor(g, 0, 2) > 0:
            yield list(cell) + [1]


class Lines(unittest.TestCase):
    def test_written_out(self):
        for name, bound, cell, found in WRITTEN_OUT:
            with self.subTest(name):
                self.assertEqual(lines(bound, cell), [0] + [number for line in found for number in line])

    def test_by_the_definition(self):
        met = 0
        for cell in right_cells((1, 2, 3), (-2, -1, 0, 1)):
            for bound in (0, 1, 4, 13):
                with self.subTest(bound=bound, cell=cell):
                    answer = lines(bound, cell)
                    self.assertEqual(answer, by_definition(bound, cell))
                    met = max(met, len(answer) // 2)
        self.assertGreater(met, 10)

    def test_many_lines_by_the_definition(self):
        for cell in (CUBE, HEXAGON, CROSSED, [2, 3, 5, 0, 0, 0, 1], [7, 9, 8, -3, 3, 4, 2], [5, 5, 5, 2, 2, 2, 1]):
            for bound in (30, 50, 97):
                with self.subTest(bound=bound, cell=cell):
                    self.assertEqual(lines(bound, cell), by_definition(bound, cell))

    def test_a_bound_that_is_just_a_length_and_one_less(self):
        for cell in (CUBE, HEXAGON, CROSSED, [7, 9, 8, -3, 3, 4, 2], [LARGE, 9, 3, 2, 1000, 7, 1]):
            all_of_them = lines(90, cell)
            for place in range(1, len(all_of_them), 2):
                length = all_of_them[place]
                with self.subTest(cell=cell, length=length):
                    self.assertEqual(lines(length, cell), all_of_them[:place + 2])
                    self.assertEqual(lines(length - 1, cell), all_of_them[:place])

    def test_each_length_once_rising_and_its_indices_in_pairs(self):
        for cell in (CUBE, HEXAGON, CROSSED, [7, 9, 8, -3, 3, 4, 2]):
            answer = lines(90, cell)
            with self.subTest(cell=cell):
                self.assertEqual(answer[1::2], sorted(set(answer[1::2])))
                self.assertGreater(answer[1], 0)
                self.assertLessEqual(answer[-2], 90)
                self.assertTrue(all(count > 0 and count % 2 == 0 for count in answer[2::2]))

    def test_signs_and_orders_of_the_columns_do_not_matter(self):
        g = matrix_of([7, 9, 8, -3, 3, 4, 2])
        expected = lines(300, cell_of(g))
        self.assertGreater(len(expected), 9)
        for order in itertools.permutations(range(3)):
            for signs in itertools.product((1, -1), repeat=3):
                other = [[signs[i] * signs[j] * g[order[i]][order[j]] for j in range(3)] for i in range(3)]
                with self.subTest(order=order, signs=signs):
                    self.assertEqual(lines(300, cell_of(other)), expected)


class TooMany(unittest.TestCase):
    def test_exactly_4096_and_more(self):
        for bound, cell in JUST_NOT_TOO_MANY:
            with self.subTest(bound=bound, cell=cell):
                answer = lines(bound, cell)
                self.assertEqual(sum(answer[2::2]), 4096)
                self.assertEqual(answer, by_definition(bound, cell))
                self.assertEqual(lines(bound + 1, cell), [-9])
                self.assertEqual(by_definition(bound + 1, cell), [-9])

    def test_exactly_4096_of_a_long_cell(self):
        # x x 3 + y y LARGE + z z 3 LARGE, so that z is 0 and y at most 1.
        bound = 2137007
        pairs = [3 * x * x + LARGE * y * y for x in range(-1000, 1001) for y in (-1, 0, 1)]
        counts = collections.Counter(length for length in pairs if 0 < length <= bound)
        self.assertEqual(sum(counts.values()), 4096)
        expected = [0] + [number for length in sorted(counts) for number in (length, counts[length])]
        self.assertEqual(lines(bound, [LARGE, 3, 1, 0, 0, 0, 1]), expected)
        self.assertEqual(lines(bound + 1, [LARGE, 3, 1, 0, 0, 0, 1]), [-9])

    def test_many_more(self):
        for bound in (5000, 65536, 2049 ** 2, 2 ** 31, MOST):
            for cell in (CUBE, [2, 2, 2, 1, 1, 1, 1], CROSSED, HEXAGON):
                with self.subTest(bound=bound, cell=cell):
                    self.assertEqual(lines(bound, cell), [-9])

    def test_many_in_one_direction_alone(self):
        for bound in (2048 ** 2, 2049 ** 2 - 1, 2049 ** 2, MOST):
            for cell in ([LARGE, 1, 1, 0, 0, 0, 1], [1, LARGE, 1, 0, 0, 0, 1], [1, 1, LARGE, 0, 0, 0, 1]):
                with self.subTest(bound=bound, cell=cell):
                    self.assertEqual(lines(bound, cell), [-9])


def out_of_time(number, frame):
    raise AssertionError("no answer in good time")


class InGoodTime(unittest.TestCase):
    """Cells that can't be gone through number by number: there an answer would take hours."""

    def setUp(self):
        self.before = signal.signal(signal.SIGALRM, out_of_time)
        signal.alarm(60)

    def tearDown(self):
        signal.alarm(0)
        signal.signal(signal.SIGALRM, self.before)

    def test_one_lattice_by_columns_far_from_right_angled(self):
        largest = 0
        for cell in (CUBE, HEXAGON, CROSSED, [7, 9, 8, -3, 3, 4, 2], [1, 2, 90, 0, 3, 0, 1], [1, 60, 90, -8, 3, 5, 1]):
            few = next(bound for bound in range(50, 0, -1) if lines(bound, cell)[0] == 0)
            for bound in (0, 1, few):
                expected = by_definition(bound, cell)
                for turn in range(len(STEPS)):
                    for factor in (1, -1, 2, -3, 11, -200, 1000):
                        other = far_from_right_angled(cell, turn, factor)
                        largest = max(largest, max(other))
                        with self.subTest(bound=bound, cell=cell, other=other):
                            self.assertEqual(lines(bound, other), expected)
        self.assertGreater(largest, LARGE // 2)

    def test_at_the_edge_of_too_many_far_from_right_angled(self):
        for bound, cell in JUST_NOT_TOO_MANY:
            expected = lines(bound, cell)
            for turn in range(len(STEPS)):
                other = far_from_right_angled(cell, turn, 3)
                with self.subTest(cell=cell, other=other):
                    self.assertEqual(lines(bound, other), expected)
                    self.assertEqual(lines(bound + 1, other), [-9])
                    self.assertEqual(lines(MOST, other), [-9])

    def test_one_lattice_by_a_single_long_step(self):
        # g12 squared and 1 is g22: the same lattice as the cube's.
        for step in (1, 7, 500, 1023, -1023):
            square = step * step + 1
            for bound in (0, 1, 40):
                expected = by_definition(bound, CUBE)
                for cell in ([1, square, 1, 0, 0, step], [1, 1, square, 0, step, 0], [1, 1, square, step, 0, 0],
                             [square, 1, 1, 0, 0, step], [square, 1, 1, 0, step, 0], [1, square, 1, step, 0, 0]):
                    with self.subTest(bound=bound, cell=cell):
                        self.assertEqual(lines(bound, cell + [1]), expected)

    def test_the_largest_numbers_with_the_largest_others(self):
        # x x LARGE - 2 x y (LARGE - 1) + y y LARGE is x - y squared, LARGE - 1 times, and x x and y y; the third
        # number's square counts 2 LARGE - 1 times, which is beyond the bound.
        cell = [LARGE, LARGE, 1, 0, 0, LARGE - 1, 1]
        bound = LARGE + 100000
        found = [(x - y) ** 2 * (LARGE - 1) + x * x + y * y for x in range(-800, 801) for y in range(x - 1, x + 2)]
        counts = collections.Counter(length for length in found if 0 < length <= bound)
        self.assertGreater(sum(counts.values()), 2000)
        expected = [0] + [number for length in sorted(counts) for number in (length, counts[length])]
        self.assertEqual(lines(bound, cell), expected)
        self.assertEqual(lines(9 * LARGE, cell), [-9])

    def test_long_one_way_and_short_another(self):
        met = set()
        for numbers in itertools.product((1, 2, 1000, LARGE), repeat=3):
            cell = list(numbers) + [0, 0, 0, 1]
            squares = (numbers[1] * numbers[2], numbers[0] * numbers[2], numbers[0] * numbers[1])
            for bound in (7, 5000, 1048576, MOST):
                with self.subTest(bound=bound, cell=cell):
                    # Up to these all three together are within the bound.
                    surely = [math.isqrt(bound // (3 * number)) for number in squares]
                    many = math.prod(2 * number + 1 for number in surely) > 4097
                    met.add(many)
                    self.assertEqual(lines(bound, cell), [-9] if many else by_definition(bound, cell))
        self.assertEqual(met, {True, False})


class ShortForm(unittest.TestCase):
    """What makes lines fast: the basis that its indices are gone through by is as short as can be."""

    def check(self, cell):
        form = adjugate(cell)
        short = short_form(form)
        aa, bb, cc, bc, ac, ab = short
        with self.subTest(cell=cell, short=short):
            self.assertEqual(determinant(short), determinant(cell) ** 2)
            self.assertTrue(0 < aa <= bb <= cc)
            self.assertLessEqual(2 * abs(ab), aa)
            self.assertLessEqual(2 * abs(ac), aa)
            self.assertLessEqual(2 * abs(bc), bb)
            for x, y in itertools.product((-1, 1), repeat=2):
                self.assertGreaterEqual(aa + bb + cc + 2 * (x * y * ab + x * ac + y * bc), cc)

    def test_small_cells(self):
        for cell in right_cells((1, 2, 4, 7), (-3, -1, 0, 2)):
            self.check(cell)

    def test_cells_far_from_right_angled(self):
        for cell in (CUBE, HEXAGON, CROSSED, [7, 9, 8, -3, 3, 4, 2], [1, 60, 90, -8, 3, 5, 1], [5, 6, 7, 2, 2, 1, 1]):
            for turn in range(len(STEPS)):
                for factor in (1, -1, 2, -3, 11, -200, 1000):
                    self.check(far_from_right_angled(cell, turn, factor))

    def test_cells_with_the_largest_numbers(self):
        for numbers in itertools.product((1, 2, 1000, LARGE), repeat=3):
            self.check(list(numbers) + [0, 0, 0, 1])
        for others in itertools.product((0, LARGE // 2, -LARGE // 3, LARGE - 1), repeat=3):
            cell = [LARGE, LARGE, LARGE] + list(others) + [1]
            if determinant(cell) > 0:
                self.check(cell)


class Refusals(unittest.TestCase):
    def check(self, answer, cell, bounds=(0, 1, 20, MOST)):
        for bound in bounds:
            with self.subTest(bound=bound, cell=cell):
                self.assertEqual(lines(bound, cell), [answer])

    def test_the_cell_has_seven_numbers(self):
        for count in (0, 1, 2, 3, 4, 5, 6, 8):
            self.check(-1, (CUBE + [1])[:count])
            self.check(-1, [0] * count)

    def test_the_six_numbers_are_within_their_bounds(self):
        for place in range(6):
            for number in (LARGE + 1, -LARGE - 1, LARGE + 2, FAR, -FAR, FAR - 1, 2 ** 32, -2 ** 32, 2 ** 32 + 1):
                self.check(-1, CUBE[:place] + [number] + CUBE[place + 1:])
                self.check(-1, [LARGE] * place + [number] + [LARGE] * (5 - place) + [1])
        for place in range(3):
            self.check(0, CUBE[:place] + [LARGE] + CUBE[place + 1:], bounds=(0,))
            self.check(-2, CUBE[:place] + [-LARGE] + CUBE[place + 1:])
        for place in range(3, 6):
            for number in (LARGE, -LARGE):
                self.check(-2, CUBE[:place] + [number] + CUBE[place + 1:])
            for number in (LARGE - 1, 1 - LARGE):
                self.check(0, [LARGE] * 3 + [0] * (place - 3) + [number] + [0] * (5 - place) + [1], bounds=(0, 2))

    def test_the_scale(self):
        for scale in (0, -1, -LARGE, LARGE + 1, -LARGE - 1, FAR, -FAR, 2 ** 32 + 1):
            self.check(-1, CUBE[:6] + [scale])
        for scale in (1, 2, LARGE - 1, LARGE):
            self.check(0, CUBE[:6] + [scale], bounds=(0,))

    def test_a_cell_that_is_not_right(self):
        for six in ([0] * 6, [0, 1, 1, 0, 0, 0], [1, 0, 1, 0, 0, 0], [1, 1, 0, 0, 0, 0],
                    [-1, 1, 1, 0, 0, 0], [1, -1, 1, 0, 0, 0], [1, 1, -1, 0, 0, 0],
                    [-1, -1, 1, 0, 0, 0], [1, -1, -1, 0, 0, 0], [-1, 1, -1, 0, 0, 0], [-1, -1, -1, 0, 0, 0],
                    [1, 1, 1, 1, 0, 0], [1, 1, 1, 0, -1, 0], [1, 1, 1, 0, 0, 1], [1, 1, 1, 2, 0, 0],
                    [1, 1, 1, 1, 1, 1], [2, 2, 2, -1, -1, -1], [2, 2, 2, -1, 1, 1], [3, 3, 3, -2, -2, -2],
                    [LARGE] * 6, [LARGE, LARGE, LARGE, -LARGE, -LARGE, -LARGE], [-LARGE] * 6):
            self.check(-2, six + [1])
            self.check(-2, six + [LARGE])

    def test_just_right(self):
        for six in ([2, 2, 2, 1, 1, 1], [2, 2, 2, 1, -1, -1], [3, 3, 3, -1, -1, -1],
                    [LARGE, LARGE, LARGE, LARGE - 1, LARGE - 1, LARGE - 1]):
            self.check(0, six + [1], bounds=(0,))

    def test_not_as_told_comes_ahead_of_not_right_and_that_ahead_of_too_many(self):
        self.check(-1, [0] * 6 + [0])
        self.check(-1, [-1] * 6)
        self.check(-1, [-1, 1, 1, 0, 0, LARGE + 1, 1])
        self.check(-1, [-1, 1, 1, 0, 0, 0, 0])
        self.check(-1, [1, 1, 1, 0, 0, 0, 0])
        self.check(-2, [-1, 1, 1, 0, 0, 0, 1])
        self.check(-9, CUBE, bounds=(MOST,))


if __name__ == "__main__":
    unittest.main()
