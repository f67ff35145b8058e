"""Point 9: matchings, and what they cost."""

import itertools
import unittest

from helper import (
    EXAMPLE, broad, cost_of_matching, deep, go_together, larger_pairs, least_by_trial, pairs_of_nine, planted,
    small_pairs, spans,
)
from treetrim.costs import cost
from treetrim.matching import matched


class Checked(unittest.TestCase):
    def check(self, row, other):
        """Everything but that the cost is the least; answers the pairs."""
        pairs = matched(row, other)
        about = (row, other, pairs)
        self.check_kinds(pairs)
        own, others = spans(row), spans(other)
        plain = [(tuple(path), tuple(opposite)) for path, opposite in pairs]
        for path, opposite in plain:
            self.assertIn(path, own, about)
            self.assertIn(opposite, others, about)
        for pair, second in itertools.combinations(plain, 2):
            self.assertTrue(go_together(pair, second), about)
        self.assertEqual(cost_of_matching(row, other, pairs), cost(row, other), about)
        return pairs

    def check_kinds(self, pairs):
        self.assertIs(type(pairs), list)
        for pair in pairs:
            self.assertIs(type(pair), tuple)
            self.assertEqual(len(pair), 2)
            for path in pair:
                self.assertIs(type(path), list)
                for place in path:
                    self.assertIs(type(place), int)

    def check_least(self, row, other):
        pairs = self.check(row, other)
        self.assertEqual(cost_of_matching(row, other, pairs), least_by_trial(row, other), (row, other, pairs))


class Chosen(Checked):
    def test_the_example(self):
        other = planted("b e(c d)")
        self.assertCountEqual(self.check(EXAMPLE, other), [([0, 0], [0]), ([0, 1], [1, 0]), ([1], [1, 1])])
        self.assertEqual(cost(EXAMPLE, other), 2)
        self.assertCountEqual(self.check(other, EXAMPLE), [([0], [0, 0]), ([1, 0], [0, 1]), ([1, 1], [1])])

    def test_empty_rows(self):
        self.assertEqual(self.check([], []), [])
        for row in (EXAMPLE, deep(9), broad(9), [("a",)]):
            self.assertEqual(self.check([], row), [])
            self.assertEqual(self.check(row, []), [])

    def test_a_row_and_itself(self):
        for row in (EXAMPLE, deep(9), broad(9), planted("a(a(a a) a) a(a(a a))")):
            self.assertCountEqual(self.check(row, row), [(list(path), list(path)) for path in spans(row)])

    def test_a_pair_whose_marks_are_not_the_same(self):
        self.assertEqual(self.check([("a",)], [("b",)]), [([0], [0])])
        self.assertCountEqual(self.check(planted("a(b)"), planted("c(b)")), [([0], [0]), ([0, 0], [0, 0])])

    def test_one_knot_cut_or_put(self):
        self.assertCountEqual(self.check(EXAMPLE, planted("b c d")), [([0, 0], [0]), ([0, 1], [1]), ([1], [2])])
        self.assertCountEqual(self.check(planted("b c d"), EXAMPLE), [([0], [0, 0]), ([1], [0, 1]), ([2], [1])])

    def test_what_lies_under_is_not_paired_with_what_lies_to_the_left(self):
        self.assertEqual(len(self.check(planted("a(b)"), planted("a b"))), 1)
        self.assertEqual(len(self.check(planted("a(b)"), planted("b a"))), 1)
        self.assertEqual(len(self.check(deep(9), broad(9))), 1)

    def test_equal_marks_at_many_knots(self):
        lines = [
            "a", "a a", "a(a)", "a(a a)", "a(a) a", "a a(a)", "a(a(a))", "a(a a a) a(a a a a)",
            "a(a(a) a(a)) a(a(a) a)", "a(a(a(a a a) a) a) a",
            "a a a a(a(a(a(a(a)))))", "a(a a(a a(a a(a a))))", "b(a a a) a(b b b b)",
        ]
        for line in lines:
            for other in lines:
                self.check_least(planted(line), planted(other))

    def test_somewhat_beyond_nine_knots(self):
        for row, other in larger_pairs(12):
            self.check(row, other)


class ManyRows(Checked):
    def test_every_two_small_rows(self):
        for row, other in small_pairs():
            self.check_least(row, other)

    def test_drawn_rows_of_nine_knots(self):
        for row, other in pairs_of_nine(9):
            self.check_least(row, other)


if __name__ == "__main__":
    unittest.main()
