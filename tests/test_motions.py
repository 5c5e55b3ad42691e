"""absent and going: points 7 and 8 of the calls, their refusals, and point 3 of the promises."""

import itertools
import unittest

from crystalsums.reflections import absent, equal, going, zero
from tests.crystals import CUBE, FAR, HEXAGON, IDENTITY, INVERSION, LARGE, described, motion

TURN_Z = (-1, 0, 0, 0, -1, 0, 0, 0, 1)
QUARTER_Z = (0, -1, 0, 1, 0, 0, 0, 0, 1)
QUARTER_BACK = (0, 1, 0, -1, 0, 0, 0, 0, 1)
MIRROR_Y = (1, 0, 0, 0, -1, 0, 0, 0, 1)
CYCLE = (0, 0, 1, 1, 0, 0, 0, 1, 0)
SIXTH_Z = (1, -1, 0, 1, 0, 0, 0, 0, 1)
# The row 1 0 0 is kept, the column isn't; of 0 1 0 it's the other way round.
SHEAR = (1, 0, 0, 1, 1, 0, 0, 0, 1)
NOTHING = (0,) * 9
ALL_DIFFERENT = (1, 2, 3, 4, 5, 6, 7, 8, 9)

SCREW = motion(TURN_Z, (0, 0, 1), 2)
SCREW_4 = motion(QUARTER_Z, (0, 0, 1), 4)
GLIDE = motion(MIRROR_Y, (0, 1, 1), 2)
BODY = motion(IDENTITY, (1, 1, 1), 2)

# What it is, motions, h, whether it is extinct.
EXTINCT = [
    ("no motions", [], [1, 2, 3], 0),
    ("no motions, 0 0 0", [], [0, 0, 0], 0),
    ("the identity", motion(IDENTITY), [1, 2, 3], 0),
    ("the identity with whole steps", motion(IDENTITY, (5, -7, 9), 1), [1, 2, 3], 0),
    ("body centred, odd", BODY, [1, 0, 0], 1),
    ("body centred, even", BODY, [1, 1, 0], 0),
    ("body centred, odd below 0", BODY, [-1, 0, 0], 1),
    ("body centred, -3", BODY, [-1, -1, -1], 1),
    ("body centred, -2", BODY, [-1, 0, -1], 0),
    ("body centred, 0 by signs", BODY, [3, -2, -1], 0),
    ("0 0 0", BODY, [0, 0, 0], 0),
    ("a screw, odd along its axis", SCREW, [0, 0, 3], 1),
    ("a screw, even along its axis", SCREW, [0, 0, 4], 0),
    ("a screw, odd below 0", SCREW, [0, 0, -3], 1),
    ("a screw, even below 0", SCREW, [0, 0, -4], 0),
    ("a screw, off its axis", SCREW, [1, 0, 3], 0),
    ("a screw, off its axis by the second", SCREW, [0, 1, 3], 0),
    ("a screw of four", SCREW_4, [0, 0, 2], 1),
    ("a screw of four, below 0", SCREW_4, [0, 0, -2], 1),
    ("a screw of four, divided", SCREW_4, [0, 0, 8], 0),
    ("a screw of four, divided below 0", SCREW_4, [0, 0, -8], 0),
    ("a glide, odd in its plane", GLIDE, [5, 0, 1], 1),
    ("a glide, even in its plane", GLIDE, [5, 0, 2], 0),
    ("a glide, out of its plane", GLIDE, [5, 1, 2], 0),
    ("inversion, 0 0 0", motion(INVERSION, (1, 1, 1), 2), [0, 0, 0], 0),
    ("inversion", motion(INVERSION, (1, 1, 1), 2), [1, 0, 0], 0),
    ("each number of t by its own of h", motion(IDENTITY, (1, 10, 100), 1000), [7, 9, 9], 1),
    ("each number of t by its own of h, divided", motion(IDENTITY, (1, 10, 100), 1000), [10, 99, 0], 0),
    ("the first of t", motion(IDENTITY, (1, 0, 0), 3), [1, 3, 3], 1),
    ("the second of t", motion(IDENTITY, (0, 1, 0), 3), [3, 1, 3], 1),
    ("the third of t", motion(IDENTITY, (0, 0, 1), 3), [3, 3, 1], 1),
    ("added: 1 and 1", motion(IDENTITY, (1, 1, 0), 3), [1, 1, 0], 1),
    ("added: 1 and 2", motion(IDENTITY, (1, 1, 0), 3), [1, 2, 0], 0),
    ("added: 1 and 1, the outer two", motion(IDENTITY, (1, 0, 1), 3), [1, 0, 1], 1),
    ("added: 1 and 2, the outer two", motion(IDENTITY, (1, 0, 1), 3), [1, 0, 2], 0),
    ("added: 1 and -1, the last two", motion(IDENTITY, (0, 1, -1), 3), [0, 1, 1], 0),
    ("t of 0 only", motion(IDENTITY, (0, 0, 0), 3), [1, 1, 1], 0),
    ("t below 0", motion(IDENTITY, (-1, 0, 0), 3), [2, 0, 0], 1),
    ("t below 0, divided", motion(IDENTITY, (-1, 0, 0), 3), [6, 0, 0], 0),
    ("t not within e", motion(IDENTITY, (7, 0, 0), 3), [1, 0, 0], 1),
    ("t and e not in lowest terms", motion(IDENTITY, (2, 2, 2), 4), [1, 0, 0], 1),
    ("t and e not in lowest terms, divided", motion(IDENTITY, (2, 2, 2), 4), [1, 1, 0], 0),
    ("e of 1", motion(IDENTITY, (1, 1, 1), 1), [1, 0, 0], 0),
    ("the row times the matrix, which doesn't keep h", motion(SHEAR, (0, 1, 0), 2), [0, 1, 0], 0),
    ("the row times the matrix, which keeps h", motion(SHEAR, (1, 0, 0), 2), [1, 0, 0], 1),
    ("a matrix of 0 only, 0 0 0", motion(NOTHING, (1, 1, 1), 2), [0, 0, 0], 0),
    ("a matrix of 0 only", motion(NOTHING, (1, 1, 1), 2), [1, 0, 0], 0),
    ("one that keeps and divides, one that doesn't keep", motion(IDENTITY) + SCREW, [1, 0, 3], 0),
    ("not kept by the one, divided by the other", motion(TURN_Z, (1, 0, 0), 2) + motion(IDENTITY), [1, 0, 0], 0),
    ("the first of three", BODY + motion(IDENTITY) + motion(INVERSION), [1, 0, 0], 1),
    ("the second of three", motion(IDENTITY) + BODY + motion(INVERSION), [1, 0, 0], 1),
    ("the last of three", motion(IDENTITY) + motion(INVERSION) + BODY, [1, 0, 0], 1),
    ("all of three", BODY * 3, [1, 0, 0], 1),
    ("two that would cancel each other", BODY + motion(IDENTITY, (-1, -1, -1), 2), [1, 0, 0], 1),
    ("the largest numbers", motion(IDENTITY, (LARGE, LARGE, LARGE), LARGE), [LARGE, LARGE, LARGE], 0),
    ("the largest e", motion(IDENTITY, (1, 0, 0), LARGE), [LARGE - 1, 0, 0], 1),
    ("the largest e, divided", motion(IDENTITY, (1, 0, 0), LARGE), [LARGE, 0, 0], 0),
    ("the largest e, divided below 0", motion(IDENTITY, (1, 0, 0), LARGE), [-LARGE, 0, 0], 0),
    ("large ones that differ by 1", motion(IDENTITY, (LARGE, LARGE, 1), 2), [LARGE, -LARGE, 1], 1),
]

# What it is, motions, h, the indices.
TOGETHER = [
    ("no motions", [], [1, 2, 3], [(1, 2, 3)]),
    ("no motions, 0 0 0", [], [0, 0, 0], [(0, 0, 0)]),
    ("no motions, below 0", [], [-1, -2, -3], [(-1, -2, -3)]),
    ("the identity", motion(IDENTITY), [3, 2, 1], [(3, 2, 1)]),
    ("t and e do not count", motion(IDENTITY, (1, 1, 1), 2), [3, 2, 1], [(3, 2, 1)]),
    ("inversion", motion(INVERSION), [1, 2, 3], [(-1, -2, -3), (1, 2, 3)]),
    ("inversion, below 0", motion(INVERSION), [-1, 2, 3], [(-1, 2, 3), (1, -2, -3)]),
    ("inversion, 0 0 0", motion(INVERSION), [0, 0, 0], [(0, 0, 0)]),
    ("inversion, the first number 0", motion(INVERSION), [0, 2, -3], [(0, -2, 3), (0, 2, -3)]),
    ("inversion, two numbers 0", motion(INVERSION), [0, 0, 3], [(0, 0, -3), (0, 0, 3)]),
    ("kept by a turn", motion(TURN_Z), [0, 0, 5], [(0, 0, 5)]),
    ("a quarter: the row times the matrix", motion(QUARTER_Z), [1, 2, 3], [(1, 2, 3), (2, -1, 3)]),
    ("a quarter back", motion(QUARTER_BACK), [1, 2, 3], [(-2, 1, 3), (1, 2, 3)]),
    ("a cycle", motion(CYCLE), [1, 2, 3], [(1, 2, 3), (2, 3, 1)]),
    ("a cycle twice is not gone", motion(CYCLE) * 2, [1, 2, 3], [(1, 2, 3), (2, 3, 1)]),
    ("a sixth", motion(SIXTH_Z), [1, 2, 3], [(1, 2, 3), (3, -1, 3)]),
    ("each number of the matrix, the first row", motion(ALL_DIFFERENT), [1, 0, 0], [(1, 0, 0), (1, 2, 3)]),
    ("each number of the matrix, the second row", motion(ALL_DIFFERENT), [0, 1, 0], [(0, 1, 0), (4, 5, 6)]),
    ("each number of the matrix, the third row", motion(ALL_DIFFERENT), [0, 0, 1], [(0, 0, 1), (7, 8, 9)]),
    ("each number of the matrix, all rows", motion(ALL_DIFFERENT), [100, 10, 1], [(100, 10, 1), (147, 258, 369)]),
    ("a matrix of 0 only", motion(NOTHING), [1, 2, 3], [(0, 0, 0), (1, 2, 3)]),
    ("no way back", motion((1, 0, 0) * 3), [1, 2, 3], [(1, 2, 3), (6, 0, 0)]),
    ("several to one index", motion(INVERSION) + motion(INVERSION, (1, 0, 0), 2) + motion(INVERSION, (0, 1, 0), 3),
     [1, 2, 3], [(-1, -2, -3), (1, 2, 3)]),
    ("different matrices to one index", motion(TURN_Z) + motion(INVERSION) + motion((-1, 0, 0, 0, -1, 0, 0, 0, 7)),
     [1, 2, 0], [(-1, -2, 0), (1, 2, 0)]),
    ("by the first, the second, the third number",
     motion(INVERSION) + motion(MIRROR_Y) + motion(TURN_Z) + motion((1, 0, 0, 0, 1, 0, 0, 0, -1)), [1, 2, 3],
     [(-1, -2, -3), (-1, -2, 3), (1, -2, 3), (1, 2, -3), (1, 2, 3)]),
    ("as numbers, not as texts", motion((10, 0, 0, 0, 1, 0, 0, 0, 1)) + motion((9, 0, 0, 0, 1, 0, 0, 0, 1)), [1, 2, 3],
     [(1, 2, 3), (9, 2, 3), (10, 2, 3)]),
    ("h neither first nor last", motion((2, 0, 0, 0, 1, 0, 0, 0, 1)) + motion((0, 0, 0, 0, 1, 0, 0, 0, 1)), [1, 2, 3],
     [(0, 2, 3), (1, 2, 3), (2, 2, 3)]),
    ("the largest numbers", motion((LARGE,) * 9, (LARGE,) * 3, LARGE), [LARGE] * 3,
     [(LARGE, LARGE, LARGE), (3 * LARGE ** 2,) * 3]),
    ("the least numbers", motion((-LARGE,) * 9, (-LARGE,) * 3, LARGE), [LARGE] * 3,
     [(-3 * LARGE ** 2,) * 3, (LARGE, LARGE, LARGE)]),
]

SIGNED_PERMUTATIONS = [
    tuple(sign if column == place else 0 for place, sign in zip(order, signs) for column in range(3))
    for order in itertools.permutations(range(3)) for signs in itertools.product((1, -1), repeat=3)
]

OUTSIDE = (LARGE + 1, -LARGE - 1, LARGE + 2, FAR, -FAR, FAR - 1, 2 ** 32, -2 ** 32, 2 ** 32 + 1)


class Absent(unittest.TestCase):
    def test_written_out(self):
        for name, motions, h, extinct in EXTINCT:
            with self.subTest(name):
                self.assertEqual(absent(motions, h), [0, extinct])

    def test_the_order_of_motions_does_not_matter(self):
        for name, motions, h, extinct in EXTINCT:
            with self.subTest(name):
                turned = [motions[k:k + 13] for k in range(0, len(motions), 13)][::-1]
                self.assertEqual(absent(sum(turned, []), h), [0, extinct])

    def test_96_motions_and_each_of_them_counts(self):
        self.assertEqual(absent(motion(IDENTITY) * 96, [1, 0, 0]), [0, 0])
        self.assertEqual(absent(BODY * 96, [1, 0, 0]), [0, 1])
        for place in range(96):
            motions = motion(IDENTITY) * place + BODY + motion(IDENTITY) * (95 - place)
            with self.subTest(place=place):
                self.assertEqual(absent(motions, [1, 0, 0]), [0, 1])
                self.assertEqual(absent(motions, [1, 1, 0]), [0, 0])

    def test_h_t_divided_by_e_or_not(self):
        for e in range(1, 9):
            for number in range(-20, 21):
                with self.subTest(e=e, number=number):
                    extinct = 0 if any(e * k == number for k in range(-20, 21)) else 1
                    self.assertEqual(absent(motion(IDENTITY, (1, 0, 0), e), [number, 0, 0]), [0, extinct])
                    self.assertEqual(absent(motion(IDENTITY, (0, number, 0), e), [0, 1, 0]), [0, extinct])
                    self.assertEqual(absent(motion(IDENTITY, (0, 0, number), e), [0, 0, -1]), [0, extinct])


class Going(unittest.TestCase):
    def test_written_out(self):
        for name, motions, h, indices in TOGETHER:
            with self.subTest(name):
                self.assertEqual(going(motions, h), [0] + [number for index in indices for number in index])

    def test_the_order_of_motions_does_not_matter(self):
        for name, motions, h, indices in TOGETHER:
            with self.subTest(name):
                turned = [motions[k:k + 13] for k in range(0, len(motions), 13)][::-1]
                self.assertEqual(going(sum(turned, []), h), going(motions, h))

    def test_all_signs_and_orders(self):
        motions = [number for matrix in SIGNED_PERMUTATIONS for number in motion(matrix)]
        self.assertEqual(len(motions), 48 * 13)
        for h in ([1, 2, 3], [-3, 1, 2], [1, 1, 2], [0, 1, 2], [5, -5, 5], [0, 0, 7], [0, 0, 0]):
            expected = {tuple(sign * number for sign, number in zip(signs, order))
                        for order in itertools.permutations(h) for signs in itertools.product((1, -1), repeat=3)}
            with self.subTest(h=h):
                self.assertEqual(going(motions, h), [0] + [number for index in sorted(expected) for number in index])
                self.assertEqual(going(motions * 2, h), going(motions, h))

    def test_96_motions_to_96_indices_and_h_itself(self):
        motions = [number for k in range(96) for number in motion((-k, 0, 0, 0, 1, 0, 0, 0, 1))]
        expected = [(-k, 5, 6) for k in range(95, -1, -1)] + [(1, 5, 6)]
        self.assertEqual(going(motions, [1, 5, 6]), [0] + [number for index in expected for number in index])


class Refusals(unittest.TestCase):
    def check(self, answer, motions, h):
        """That both begin their answers so, and that a refusal stands alone."""
        for call in (absent, going):
            with self.subTest(call=call.__name__, motions=motions[:13], count=len(motions), h=h):
                given = call(motions, h)
                self.assertEqual(given if answer < 0 else given[:1], [answer])
                if answer == 0:
                    self.assertGreater(len(given), 1)

    def test_thirteen_numbers_each_and_96_motions_at_most(self):
        for count in range(1301):
            whole = count % 13 == 0 and count // 13 <= 96
            self.check(0 if whole else -1, [1] * count, [1, 0, 0])

    def test_an_index_has_three_numbers(self):
        for motions in ([], BODY, BODY * 96):
            for count in (0, 1, 2, 4):
                self.check(-1, motions, [0, 0, 0, 0][:count])
                self.check(-1, motions, [1, 2, 3, 4][:count])

    def test_an_indexs_numbers(self):
        for motions in ([], BODY, BODY * 96):
            for place in range(3):
                for number in OUTSIDE:
                    self.check(-1, motions, [0] * place + [number] + [0] * (2 - place))
                for number in (LARGE, -LARGE):
                    self.check(0, motions, [0] * place + [number] + [0] * (2 - place))

    def test_a_motions_numbers(self):
        for count in (1, 3, 96):
            motions = BODY * count
            for place in list(range(13)) + list(range(13 * count - 13, 13 * count)):
                for number in OUTSIDE:
                    self.check(-1, motions[:place] + [number] + motions[place + 1:], [1, 0, 0])
                for number in (LARGE, -LARGE):
                    at_e = place % 13 == 12
                    self.check(-1 if at_e and number < 0 else 0,
                               motions[:place] + [number] + motions[place + 1:], [1, 0, 0])

    def test_e_is_from_1_on(self):
        for count in (1, 2, 96):
            for place in sorted({0, count // 2, count - 1}):
                for e in (1, 2, LARGE):
                    motions = BODY * place + motion(IDENTITY, (1, 1, 1), e) + BODY * (count - 1 - place)
                    self.check(0, motions, [1, 0, 0])
                for e in (0, -1, -2, -LARGE, -LARGE - 1, -FAR):
                    motions = BODY * place + motion(IDENTITY, (1, 1, 1), e) + BODY * (count - 1 - place)
                    self.check(-1, motions, [1, 0, 0])
                    self.check(-1, motions, [0, 0, 0])

    def test_a_fault_behind_a_motion_that_makes_extinct(self):
        self.check(-1, BODY + motion(IDENTITY, (0, 0, 0), 0), [1, 0, 0])
        self.check(-1, BODY + motion(IDENTITY, (FAR, 0, 0), 1), [1, 0, 0])
        self.check(-1, BODY + [0], [1, 0, 0])

    def test_everything_at_fault(self):
        self.check(-1, [], [])
        self.check(-1, [FAR] * 1300, [-FAR] * 3)
        self.check(-1, [-FAR] * 1299, [])
        self.check(-1, [0] * 1300, [0, 0])


def moved(row, place, d):
    """Where the motion leads a place of three numbers over d; None if that is not over d."""
    matrix, t, e = row[:9], row[9:12], row[12]
    if any(number * d % e for number in t):
        return None
    return tuple((sum(matrix[3 * k + j] * place[j] for j in range(3)) + t[k] * d // e) % d for k in range(3))


def kept_crystal(motions, d, seeds):
    """The points that the seeds, one place for each kind, come to by the motions again and again."""
    points = {}
    for kind, seed in enumerate(seeds, start=1):
        open_places = [seed]
        while open_places:
            place = open_places.pop()
            if place not in points:
                points[place] = kind
                open_places.extend(moved(row, place, d) for row in motions)
    return described(d, *[(kind,) + place for place, kind in points.items()])


# Their motions, d, a place of each kind, a cell that they keep.
CRYSTALS = {
    "a screw and inversion": ([SCREW, motion(INVERSION)], 6, [(1, 2, 0), (0, 1, 5)], [2, 3, 4, 0, 0, 1, 1]),
    "a glide": ([GLIDE], 4, [(1, 1, 1), (0, 2, 1), (3, 0, 0)], [2, 3, 4, 0, 1, 0, 1]),
    "body centred, quarters": ([BODY, motion(QUARTER_Z)], 8, [(1, 2, 3), (0, 0, 0)], [3, 3, 5, 0, 0, 0, 2]),
    "a screw of four": ([SCREW_4], 12, [(1, 2, 0), (5, 5, 5), (0, 0, 1)], [3, 3, 5, 0, 0, 0, 2]),
    "a screw of four, back": ([motion(QUARTER_Z, (0, 0, 3), 4)], 4, [(1, 2, 0), (0, 0, 1)], [3, 3, 5, 0, 0, 0, 2]),
    "a screw of six": ([motion(SIXTH_Z, (0, 0, 1), 6)], 6, [(1, 3, 0), (0, 0, 2), (2, 2, 1)], HEXAGON),
    "a screw of six by half, inversion": ([motion(SIXTH_Z, (0, 0, 1), 2), motion(INVERSION)], 12, [(1, 4, 3)], HEXAGON),
    "faces centred, a diamond": (
        [motion(IDENTITY, (0, 1, 1), 2), motion(IDENTITY, (1, 0, 1), 2), motion(CYCLE),
         motion(INVERSION, (1, 1, 1), 4)], 4, [(0, 0, 0)], CUBE),
    "a diamond's glide": (
        [motion(IDENTITY, (0, 1, 1), 2), motion(IDENTITY, (1, 0, 1), 2),
         motion((1, 0, 0, 0, 1, 0, 0, 0, -1), (1, 1, 1), 4)], 8, [(0, 0, 0), (1, 2, 0)], CUBE),
    "only whole steps": (
        [motion(IDENTITY, (3, -1, 2), 1)], 5, [(1, 2, 3), (0, 4, 0), (2, 2, 2)], [3, 4, 5, -1, 1, 1, 7]),
}


def handed_over():
    """Of each crystal and several weights: its name, the cell, points, weights and motions."""
    found = []
    for name, (motions, d, seeds, cell) in CRYSTALS.items():
        points = kept_crystal(motions, d, seeds)
        for weights in ([1] * len(seeds), [7, -3, 5], [LARGE, 1], [0, -2, 9]):
            found.append((name, cell, points, weights, sum(motions, [])))
    return found


class Promises(unittest.TestCase):
    def test_the_motions_keep_the_crystals_and_their_cells(self):
        for name, (motions, d, seeds, cell) in CRYSTALS.items():
            points = kept_crystal(motions, d, seeds)
            kinds = {tuple(points[k + 1:k + 4]): points[k] for k in range(1, len(points), 4)}
            g = [[cell[0], cell[5], cell[4]], [cell[5], cell[1], cell[3]], [cell[4], cell[3], cell[2]]]
            for row in motions:
                with self.subTest(name, motion=row):
                    self.assertEqual({moved(row, place, d): kind for place, kind in kinds.items()}, kinds)
                    w = [row[0:3], row[3:6], row[6:9]]
                    turned = [[sum(w[i][a] * g[i][j] * w[j][b] for i in range(3) for j in range(3)) for b in range(3)]
                              for a in range(3)]
                    self.assertEqual(turned, g)

    def test_what_is_extinct_has_the_sum_nothing_whatever_the_weights(self):
        met = set()
        for name, cell, points, weights, motions in handed_over():
            for h in itertools.product(range(-4, 5), repeat=3):
                extinct = absent(motions, list(h))
                met.add(extinct[1])
                if extinct == [0, 1]:
                    with self.subTest(name, weights=weights, h=h):
                        self.assertEqual(zero(cell, points, weights, list(h)), [0, 1])
        self.assertEqual(met, {0, 1})

    def test_what_goes_together_has_one_strength(self):
        most = 0
        for name, cell, points, weights, motions in handed_over():
            for h in itertools.product(range(-1, 3), repeat=3):
                answer = going(motions, list(h))[1:]
                most = max(most, len(answer) // 3)
                for k in range(0, len(answer), 3):
                    with self.subTest(name, weights=weights, h=h, other=answer[k:k + 3]):
                        self.assertEqual(equal(cell, points, weights, list(h), answer[k:k + 3]), [0, 1])
        self.assertGreater(most, 2)


if __name__ == "__main__":
    unittest.main()
