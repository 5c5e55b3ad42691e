"""What the interface says of every call: names, lists of plain whole numbers, nothing kept, changed or printed."""

import contextlib
import copy
import importlib.util
import inspect
import io
import sys
import unittest

from crystalsums import reflections
from tests.crystals import CUBE, FAR, IDENTITY, INVERSION, LARGE, described, motion, scattered_points

PARAMETERS = {
    "rank": ["d"],
    "poly": ["d"],
    "summed": ["cell", "points", "weights", "h"],
    "power": ["cell", "points", "weights", "h"],
    "zero": ["cell", "points", "weights", "h"],
    "equal": ["cell", "points", "weights", "h", "k"],
    "absent": ["motions", "h"],
    "going": ["motions", "h"],
    "lines": ["bound", "cell"],
}

SMALL = described(6, (1, 0, 0, 0), (2, 1, 0, 0), (1, 2, 0, 0))

ORDERS = [[d] for d in list(range(1, 121)) + [0, 121, 255, 256, 65536 + 12, 2147483648, 4294967295]]

# A cell, points, weights and an index: answered ones, then refused ones.
HANDED = [
    [CUBE, SMALL, [1, -1], [1, 0, 0]],
    [CUBE, SMALL, [1, -1], [-1, 2, 0]],
    [CUBE, SMALL, [], [1, 0, 0]],
    [CUBE, described(1, (1, 0, 0, 0)), [3], [5, 6, 7]],
    [[3, 4, 5, -1, 1, 1, 7], scattered_points(105, 64, 255), [LARGE, -LARGE] * 127, [LARGE, 1, -LARGE]],
    [CUBE, scattered_points(120, 64, 5), [3, 1, -4, 1], [-7, 0, 11]],
    [[], [], [], []],
    [CUBE, SMALL, [1, -1], [1, 0]],
    [CUBE, SMALL, [FAR], [1, 0, 0]],
    [[0] * 6 + [1], SMALL, [1, -1], [1, 0, 0]],
    [CUBE, [FAR, 1, 0, 0, 0], [1, -1], [1, 0, 0]],
    [CUBE, described(6, (1, 1, 0, 0), (2, 1, 0, 0)), [1, -1], [1, 0, 0]],
]

# Motions and an index: answered ones, then refused ones.
MOVED = [
    [[], [1, 2, 3]],
    [motion(IDENTITY, (1, 1, 1), 2), [1, 0, 0]],
    [motion(INVERSION) + motion(IDENTITY, (0, 1, 1), 2), [-1, 2, 0]],
    [motion(INVERSION, (LARGE, -LARGE, 0), LARGE) * 96, [LARGE, -LARGE, LARGE]],
    [motion(IDENTITY) * 97, [1, 0, 0]],
    [motion(IDENTITY)[:12], [1, 0, 0]],
    [motion(IDENTITY, (0, 0, 0), 0), [1, 0, 0]],
    [[-FAR] * 1300, [FAR, 0]],
    [motion(IDENTITY), [1, 0]],
    [motion(IDENTITY), [FAR, 0, 0]],
]

# A bound and a cell: answered ones, then refused ones.
BOUNDED = [
    [0, CUBE],
    [3, CUBE],
    [20, [3, 4, 5, -1, 1, 1, 7]],
    [200, [LARGE, 3, 1, 0, 0, 0, LARGE]],
    [30, [1, 1023 * 1023 + 1, 1, 0, 0, 1023, 1]],
    [4294967295, [LARGE, LARGE, LARGE, 0, 0, 0, 1]],
    [4294967295, CUBE],
    [3, CUBE[:6]],
    [3, []],
    [3, [FAR] * 7],
    [3, CUBE[:6] + [0]],
    [3, [1, 1, 1, 1, 1, 1, 1]],
]


def cases():
    """Each call's name with something that it is handed, made anew."""
    for name in ("rank", "poly"):
        for handed in ORDERS:
            yield name, copy.deepcopy(handed)
    for name in ("summed", "power", "zero"):
        for handed in HANDED:
            yield name, copy.deepcopy(handed)
    for handed in HANDED:
        for k in ([-1, 0, 0], [2, 0, 0], [1, 0], [FAR, 0, 0]):
            yield "equal", copy.deepcopy(handed + [k])
    for name in ("absent", "going"):
        for handed in MOVED:
            yield name, copy.deepcopy(handed)
    for handed in BOUNDED:
        yield "lines", copy.deepcopy(handed)


def called(name, handed, module=reflections):
    return getattr(module, name)(*handed)


def refuse_change(self, *numbers, **words):
    raise AssertionError("a list that was handed in is changed")


class Untouched(list):
    """A list that can't be changed, not for a while either."""
    __setitem__ = __delitem__ = __iadd__ = __imul__ = refuse_change
    append = extend = insert = pop = remove = clear = reverse = sort = refuse_change


class Names(unittest.TestCase):
    def test_functions_and_parameters_are_called_as_told(self):
        for name, parameters in PARAMETERS.items():
            with self.subTest(name):
                self.assertEqual(list(inspect.signature(getattr(reflections, name)).parameters), parameters)

    def test_parameters_can_be_handed_over_by_name(self):
        for name, handed in cases():
            with self.subTest(name):
                by_name = dict(zip(PARAMETERS[name], handed))
                self.assertEqual(getattr(reflections, name)(**by_name), called(name, handed))


class Answers(unittest.TestCase):
    def test_lists_of_plain_whole_numbers(self):
        for name, handed in cases():
            with self.subTest(name, handed=handed):
                answer = called(name, handed)
                self.assertIs(type(answer), list)
                self.assertEqual({type(number) for number in answer}, {int})

    def test_a_refusal_stands_alone_and_no_other_answer_begins_below_0(self):
        for name, handed in cases():
            with self.subTest(name, handed=handed):
                answer = called(name, handed)
                if answer[0] < 0:
                    self.assertEqual(len(answer), 1)
                else:
                    self.assertEqual(answer[0], 0)
                    # Only of lines there may be none.
                    self.assertGreater(len(answer), 0 if name == "lines" else 1)

    def test_the_same_answer_again_after_the_first_was_changed(self):
        for name, handed in cases():
            with self.subTest(name, handed=handed):
                first = called(name, handed)
                kept = list(first)
                self.assertEqual(called(name, handed), kept)
                first[0] = 77
                first.append(88)
                self.assertEqual(called(name, handed), kept)
                first.clear()
                self.assertEqual(called(name, handed), kept)

    def test_answers_do_not_depend_on_the_calls_before(self):
        order = list(cases())
        forwards = [called(name, handed) for name, handed in order]
        backwards = [called(name, handed) for name, handed in reversed(order)]
        self.assertEqual(forwards, backwards[::-1])


class NothingElse(unittest.TestCase):
    def test_what_is_handed_in_is_the_same_behind_the_call(self):
        for name, handed in cases():
            with self.subTest(name, handed=handed):
                before = copy.deepcopy(handed)
                called(name, handed)
                self.assertEqual(handed, before)

    def test_what_is_handed_in_is_not_changed_for_a_while_either(self):
        for name, handed in cases():
            with self.subTest(name, handed=handed):
                kept = [Untouched(value) if isinstance(value, list) else value for value in handed]
                self.assertEqual(called(name, kept), called(name, handed))

    def test_nothing_of_what_is_handed_in_is_given_back(self):
        for name, handed in cases():
            with self.subTest(name, handed=handed):
                before = copy.deepcopy(handed)
                answer = called(name, handed)
                answer.append(99)
                answer[0] = 98
                self.assertEqual(handed, before)

    def test_nothing_is_kept_in_the_module(self):
        # Loaded anew, as the calls of other tests may have left there already what these would.
        spec = importlib.util.spec_from_file_location("loaded_anew", reflections.__file__)
        anew = importlib.util.module_from_spec(spec)
        spec.loader.exec_module(anew)

        def shown():
            return {name: copy.deepcopy(value) for name, value in vars(anew).items() if not name.startswith("__")}
        before = shown()
        for name, handed in cases():
            called(name, handed, anew)
        self.assertEqual(shown(), before)

    def test_nothing_is_printed_or_read(self):
        out, err = io.StringIO(), io.StringIO()
        standard_input = sys.stdin
        sys.stdin = None
        try:
            with contextlib.redirect_stdout(out), contextlib.redirect_stderr(err):
                for name, handed in cases():
                    called(name, handed)
        finally:
            sys.stdin = standard_input
        self.assertEqual((out.getvalue(), err.getvalue()), ("", ""))


if __name__ == "__main__":
    unittest.main()
