"""The refusals of the calls that are handed a description: -1 ahead of -2, each at both sides of its edges."""

import itertools
import unittest

from crystalsums.reflections import equal, power, summed, zero
from tests.crystals import CUBE, FAR, LARGE, described, scattered_points

POINTS = described(4, (1, 0, 0, 0), (2, 1, 2, 3))
WEIGHTS = [5, -3]
H = [1, 0, -2]

# Each is called with a cell, points, weights and one index.
CALLS = {
    "summed": summed,
    "power": power,
    "zero": zero,
    "equal, h": lambda cell, points, weights, h: equal(cell, points, weights, h, H),
    "equal, k": lambda cell, points, weights, h: equal(cell, points, weights, H, h),
    "equal, both": lambda cell, points, weights, h: equal(cell, points, weights, h, h),
}

OUTSIDE = (LARGE + 1, -LARGE - 1, LARGE + 2, FAR, -FAR, FAR - 1, 2 ** 32, -2 ** 32, 2 ** 32 + 1)


def changed(row, place, number):
    return row[:place] + [number] + row[place + 1:]


def cell_of(diagonal, others, scale=1):
    """The cell with g11 g22 g33 and g23 g13 g12."""
    return list(diagonal) + list(others) + [scale]


class Answers(unittest.TestCase):
    def check(self, answer, cell=None, points=None, weights=None, h=None):
        """That each call begins its answer so, and that a refusal stands alone."""
        handed = [CUBE if cell is None else cell, POINTS if points is None else points,
                  WEIGHTS if weights is None else weights, H if h is None else h]
        for name, call in CALLS.items():
            with self.subTest(call=name, cell=handed[0], points=handed[1][:9], weights=handed[2][:9], h=handed[3]):
                given = call(*handed)
                self.assertEqual(given if answer < 0 else given[:1], [answer])
                if answer == 0:
                    self.assertGreater(len(given), 1)


class RowsNotAsTold(Answers):
    def test_what_the_tests_begin_with_is_answered(self):
        self.check(0)

    def test_the_cell_has_seven_numbers(self):
        for count in (0, 1, 2, 3, 4, 5, 6, 8):
            self.check(-1, cell=(CUBE + [1])[:count])

    def test_points_are_one_and_some_fours(self):
        row = scattered_points(120, 74, 9)
        for count in range(301):
            whole = count % 4 == 1
            found = count // 4
            self.check((0 if 1 <= found <= 64 else -2) if whole else -1, points=(row + [0] * 10)[:count])

    def test_weights_are_at_most_255(self):
        for count in (0, 1, 2, 3, 254, 255):
            self.check(0, weights=[1] * count)
        for count in (256, 257, 299, 300):
            self.check(-1, weights=[1] * count)
            self.check(-1, weights=[0] * count)

    def test_an_index_has_three_numbers(self):
        for count in (0, 1, 2, 4):
            self.check(-1, h=[0, 0, 0, 0][:count])
            self.check(-1, h=[1, 2, 3, 4][:count])


class NumbersNotAsTold(Answers):
    def test_the_six_of_a_cell(self):
        for place in range(6):
            for number in OUTSIDE:
                self.check(-1, cell=changed(CUBE, place, number))

    def test_the_six_of_a_cell_at_their_edges(self):
        for place in range(3):
            self.check(0, cell=changed(CUBE, place, LARGE))
            self.check(-2, cell=changed(CUBE, place, -LARGE))
        for place in range(3, 6):
            for number in (LARGE, -LARGE):
                self.check(-2, cell=changed(CUBE, place, number))
                # Not right, but for another reason than its size.
                self.check(-2, cell=changed([LARGE, LARGE, LARGE, 0, 0, 0, 1], place, number))
            for number in (LARGE - 1, 1 - LARGE):
                self.check(0, cell=changed([LARGE, LARGE, LARGE, 0, 0, 0, 1], place, number))

    def test_the_scale(self):
        for scale in (1, 2, LARGE - 1, LARGE):
            self.check(0, cell=CUBE[:6] + [scale])
        for scale in (0, -1, -LARGE) + OUTSIDE:
            self.check(-1, cell=CUBE[:6] + [scale])

    def test_weights(self):
        for number in (LARGE, -LARGE):
            for place in (0, 1):
                self.check(0, weights=changed(WEIGHTS, place, number))
            self.check(0, weights=[number] * 255)
        for number in OUTSIDE:
            for place in (0, 1):
                self.check(-1, weights=changed(WEIGHTS, place, number))
            # Also of a kind that no point has.
            self.check(-1, weights=[1] * 254 + [number])

    def test_an_index(self):
        for place in range(3):
            for number in (LARGE, -LARGE):
                self.check(0, h=changed(H, place, number))
            for number in OUTSIDE:
                self.check(-1, h=changed(H, place, number))


class CellsNotRight(Answers):
    def test_diagonals(self):
        for diagonal in itertools.product((-1, 0, 1), repeat=3):
            self.check(0 if diagonal == (1, 1, 1) else -2, cell=cell_of(diagonal, (0, 0, 0)))

    def test_which_number_is_which(self):
        # g23 against g22 g33, g13 against g11 g33, g12 against g11 g22.
        for large in range(3):
            for other in range(3):
                cell = cell_of(changed([1, 1, 1], large, 4), changed([0, 0, 0], other, 1))
                self.check(-2 if large == other else 0, cell=cell)

    def test_nothing_for_some_column(self):
        self.check(-2, cell=cell_of((1, 1, 1), (0, 0, 1)))
        self.check(-2, cell=cell_of((1, 1, 1), (0, 0, -1)))
        # 0 for the column 1 1 -1, though above 0 for all with a 0 at the end.
        self.check(-2, cell=cell_of((1, 1, 2), (1, 1, 0)))
        self.check(0, cell=cell_of((1, 1, 3), (1, 1, 0)))
        self.check(-2, cell=cell_of((2, 2, 2), (-1, -1, -1)))
        self.check(0, cell=cell_of((2, 2, 2), (1, 1, 1)))

    def test_a_determinant_above_0_is_not_enough(self):
        # Two directions below 0 and one above, with g11 above 0 too.
        for others in ((2, 2, 2), (-2, 2, -2), (2, -2, -2), (-2, -2, 2)):
            self.check(-2, cell=cell_of((1, 1, 1), others))
            self.check(-2, cell=cell_of((1, 1, 1), others, LARGE))

    def test_the_signs_of_the_last_three(self):
        for signs in itertools.product((1, -1), repeat=3):
            right = signs[0] * signs[1] * signs[2] == 1
            self.check(0 if right else -2, cell=cell_of((3, 3, 3), [2 * sign for sign in signs]))

    def test_just_right_with_large_numbers(self):
        diagonal = (LARGE, LARGE, LARGE)
        self.check(0, cell=cell_of(diagonal, (LARGE - 1, LARGE - 1, LARGE - 1), LARGE))
        self.check(-2, cell=cell_of(diagonal, (LARGE, LARGE, LARGE), LARGE))
        self.check(0, cell=cell_of(diagonal, (-524287, -524287, -524287)))
        self.check(-2, cell=cell_of(diagonal, (-524288, -524288, -524288)))
        # Determinant 1, then less; determinant 0, then more.
        self.check(0, cell=cell_of((900939, 713902, 724481), (718817, -772053, -758594)))
        self.check(-2, cell=cell_of((900939, 713902, 724480), (718817, -772053, -758594)))
        self.check(-2, cell=cell_of((494237, 425092, 338130), (378822, 383793, 436298)))
        self.check(0, cell=cell_of((494237, 425092, 338131), (378822, 383793, 436298)))

    def test_small_cells_by_their_columns(self):
        columns = [x for x in itertools.product(range(-3, 4), repeat=3) if x > (0, 0, 0)]
        for diagonal in itertools.product((1, 2), repeat=3):
            for others in itertools.product((-2, -1, 0, 1, 2), repeat=3):
                cell = cell_of(diagonal, others)
                lengths = [sum(g * x * x for g, x in zip(diagonal, (a, b, c)))
                           + 2 * (others[0] * b * c + others[1] * a * c + others[2] * a * b) for a, b, c in columns]
                self.check(0 if min(lengths) > 0 else -2, cell=cell)


class NoDescription(Answers):
    def test_d(self):
        for d in (1, 2, 119, 120):
            self.check(0, points=described(d, (1, 0, 0, 0)))
        for d in (0, -1, -4, 121, 122, 2 ** 32 + 1, LARGE, LARGE + 1, FAR, -FAR):
            self.check(-2, points=described(d, (1, 0, 0, 0)))
            self.check(-2, points=[d])

    def test_how_many_points(self):
        self.check(-2, points=[4])
        for count in (1, 63, 64):
            self.check(0, points=scattered_points(120, count, 9))
            self.check(0, points=scattered_points(4, count, 9))
        for count in (65, 66, 74):
            self.check(-2, points=scattered_points(120, count, 9))

    def test_kinds(self):
        for kind in (1, 2, 254, 255):
            self.check(0, points=described(4, (kind, 0, 0, 0), (2, 1, 2, 3)))
            self.check(0, points=described(4, (1, 0, 0, 0), (kind, 1, 2, 3)))
        for kind in (0, -1, -255, 256, 257, LARGE + 1, FAR, -FAR):
            self.check(-2, points=described(4, (kind, 0, 0, 0), (2, 1, 2, 3)))
            self.check(-2, points=described(4, (1, 0, 0, 0), (kind, 1, 2, 3)))

    def test_places(self):
        for d in (1, 2, 4, 120):
            for place in range(3):
                self.check(0, points=[d, 1] + changed([0, 0, 0], place, d - 1))
                for number in (-1, -d, d, d + 1, LARGE + 1, FAR, -FAR):
                    self.check(-2, points=[d, 1] + changed([0, 0, 0], place, number))
                    self.check(-2, points=[d, 1] + [d - 1] * 3 + [2] + changed([0, 0, 0], place, number))

    def test_two_at_one_place(self):
        for kinds in ((1, 1), (1, 2), (3, 255)):
            self.check(-2, points=described(4, (kinds[0], 1, 2, 3), (kinds[1], 1, 2, 3)))
            self.check(-2, points=described(4, (kinds[0], 1, 2, 3), (1, 0, 0, 0), (kinds[1], 1, 2, 3)))
            self.check(-2, points=described(1, (kinds[0], 0, 0, 0), (kinds[1], 0, 0, 0)))
        row = scattered_points(120, 63, 9)
        self.check(0, points=row + [7, 0, 0, 0])
        self.check(-2, points=row + [7] + row[2:5])
        self.check(-2, points=row + [7] + row[-3:])

    def test_places_with_the_same_numbers_in_another_order(self):
        orders = list(itertools.permutations((1, 2, 3)))
        self.check(0, points=described(4, *[(1,) + place for place in orders]))
        self.check(0, points=described(120, (1, 1, 11, 0), (1, 11, 1, 0), (1, 0, 1, 11), (1, 1, 1, 1), (1, 11, 11, 0)))


class TheOrder(Answers):
    def test_not_as_told_comes_first(self):
        not_as_told = [
            {"weights": [1] * 256}, {"weights": [LARGE + 1]}, {"weights": [-FAR]},
            {"h": [1, 2]}, {"h": []}, {"h": [0, 0, LARGE + 1]}, {"h": [-FAR, 0, 0]},
        ]
        no_description = [
            {"cell": [0] * 6 + [1]}, {"cell": cell_of((1, 1, 1), (1, 1, 1))},
            {"points": [4]}, {"points": described(0, (1, 0, 0, 0))}, {"points": described(121, (1, 0, 0, 0))},
            {"points": scattered_points(120, 65, 9)}, {"points": described(4, (0, 0, 0, 0))},
            {"points": described(4, (256, 0, 0, 0))}, {"points": described(4, (1, 0, 4, 0))},
            {"points": described(4, (1, 0, 0, -1))}, {"points": described(4, (1, 0, 0, 0), (2, 0, 0, 0))},
        ]
        for first in not_as_told:
            for second in no_description:
                self.check(-1, **first, **second)

    def test_not_as_told_comes_first_within_a_cell_and_points(self):
        for cell in (CUBE[:6], CUBE[:6] + [0], [LARGE + 1] + CUBE[1:], [-FAR] * 6 + [1], [0] * 6 + [0], [0] * 6):
            for points in ([4], described(0, (1, 0, 0, 0)), described(4, (0, 0, 0, 0)), scattered_points(120, 65, 9)):
                self.check(-1, cell=cell, points=points)
        for points in ([], [0, 0], [121, 0, 0, 0], described(0, (1, 0, 0, 0)) + [1], [FAR] * 300):
            for cell in ([0] * 7, [0] * 6 + [1], CUBE):
                self.check(-1, cell=cell, points=points)

    def test_everything_at_fault(self):
        self.check(-1, cell=[], points=[], weights=[FAR] * 300, h=[])
        self.check(-1, cell=[FAR] * 7, points=[FAR] * 297, weights=[-FAR] * 300, h=[-FAR] * 3)
        self.check(-2, cell=[-LARGE] * 6 + [LARGE], points=[-FAR] * 297, weights=[LARGE] * 255, h=[LARGE] * 3)


if __name__ == "__main__":
    unittest.main()
