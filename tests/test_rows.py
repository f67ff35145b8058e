"""Points 2 and 3: rows, knots, paths and their order."""

import unittest

from helper import EXAMPLE, HUGE, broad, deep, small_rows, spans
from treetrim.rows import leads, paths


class Paths(unittest.TestCase):
    def test_the_empty_row_has_none(self):
        self.assertEqual(paths([]), [])

    def test_a_single_knot(self):
        self.assertEqual(paths([("a",)]), [[0]])
        self.assertEqual(paths([("z" * 28,)]), [[0]])

    def test_the_example(self):
        self.assertEqual(paths(EXAMPLE), [[0], [0, 0], [0, 1], [1]])

    def test_a_knot_comes_ahead_of_those_under_it_and_these_ahead_of_its_right(self):
        row = [("a", ("b", ("c",), ("d",)), ("e",)), ("f", ("g",))]
        self.assertEqual(paths(row), [[0], [0, 0], [0, 0, 0], [0, 0, 1], [0, 1], [1], [1, 0]])

    def test_a_mark_that_comes_twice_is_two_knots(self):
        self.assertEqual(paths([("a", ("a",), ("a",)), ("a",)]), [[0], [0, 0], [0, 1], [1]])

    def test_a_deep_row(self):
        self.assertEqual(paths(deep(110)), [[0] * count for count in range(1, 111)])

    def test_a_broad_row(self):
        self.assertEqual(paths(broad(110)), [[place] for place in range(110)])

    def test_a_knot_over_many_trees(self):
        self.assertEqual(paths([("a", *broad(109))]), [[0]] + [[0, place] for place in range(109)])

    def test_a_row_that_is_deep_and_broad(self):
        row = [("a", *deep(9))] * 11
        expected = [[place] + [0] * depth for place in range(11) for depth in range(10)]
        self.assertEqual(len(expected), 110)
        self.assertEqual(paths(row), expected)

    def test_a_row_beyond_the_bound(self):
        self.assertEqual(len(paths(deep(300))), 300)
        self.assertEqual(len(paths(broad(300))), 300)

    def test_every_small_row(self):
        for row in small_rows(6):
            with self.subTest(row=row):
                self.assertEqual(paths(row), sorted(list(path) for path in spans(row)))

    def test_the_kinds(self):
        found = paths(EXAMPLE)
        self.assertIs(type(found), list)
        for path in found:
            self.assertIs(type(path), list)
            self.assertEqual({type(place) for place in path}, {int})


class Leads(unittest.TestCase):
    def check(self, row, path, expected):
        with self.subTest(path=path):
            self.assertIs(leads(row, path), expected)

    def test_the_empty_path(self):
        for row in ([], EXAMPLE, deep(110), broad(110)):
            self.check(row, [], True)

    def test_each_path_that_leads_to_a_knot(self):
        for row in (EXAMPLE, deep(110), broad(110), [("a", *broad(109))]):
            for path in paths(row):
                self.check(row, path, True)

    def test_a_number_below_nought(self):
        for path in ([-1], [-2], [0, -1], [-1, 0], [-2, 0], [0, -2], [-HUGE], [0, -HUGE], [-HUGE, 0]):
            self.check(EXAMPLE, path, False)

    def test_a_number_of_as_many_trees_or_more(self):
        for path in ([2], [3], [0, 2], [0, 3], [2, 0], [HUGE], [0, HUGE], [HUGE, 0], [0, HUGE, 0]):
            self.check(EXAMPLE, path, False)
        self.check(broad(110), [110], False)
        self.check([("a", *broad(109))], [0, 109], False)

    def test_a_number_more_behind_a_knot_with_no_tree_under_it(self):
        for path in ([1, 0], [0, 0, 0], [0, 1, 0], [1, 1], [1, -1], [1, HUGE], [1, -HUGE], [1, 0, 0]):
            self.check(EXAMPLE, path, False)
        self.check(deep(110), [0] * 111, False)
        self.check(broad(110), [109, 0], False)

    def test_the_empty_row(self):
        for path in ([0], [1], [-1], [0, 0], [HUGE], [-HUGE]):
            self.check([], path, False)

    def test_every_short_path_in_every_small_row(self):
        numbers = range(-2, 5)
        tried = [[], *([one] for one in numbers), *([one, two] for one in numbers for two in numbers)]
        for row in small_rows(4):
            known = spans(row)
            for path in tried:
                self.check(row, path, path == [] or tuple(path) in known)


if __name__ == "__main__":
    unittest.main()
