"""Point 8: the cost between two rows."""

import unittest

from helper import (
    EXAMPLE, Draws, broad, deep, least_by_trial, marked_rows, planted, signs, signs_behind, small_rows, spans, steps_on,
)
from treetrim.costs import cost
from treetrim.steps import behind, done

# Lines with few marks, many marks, and deep and broad places.
LINES = [
    "", "a", "b", "a a", "a(a)", "a b", "b(a)", "a(b c) d", "b e(c d)", "a(a(a)) a", "a(a a(a a) a)", "b(a(b) a(b))",
    "a(b(c(d(e(f(g(h(i))))))))", "a b c d e f g h i", "e(a(i) b) c(d(f g) h)", "a(a a) a(a a) a(a a)",
]


class Single(unittest.TestCase):
    def check(self, row, other, expected):
        with self.subTest(row=row, other=other):
            self.assertEqual(cost(row, other), expected)
            self.assertEqual(cost(other, row), expected)

    def test_two_empty_rows(self):
        self.check([], [], 0)

    def test_the_empty_row_and_another(self):
        self.check([], [("a",)], 1)
        self.check([], EXAMPLE, 4)
        self.check([], deep(9), 9)
        self.check([], broad(9), 9)

    def test_a_row_and_itself(self):
        for line in LINES:
            self.check(planted(line), planted(line), 0)

    def test_one_mark(self):
        self.check([("a",)], [("b",)], 1)
        self.check(EXAMPLE, planted("e(b c) d"), 1)
        self.check(EXAMPLE, planted("a(b e) d"), 1)
        self.check(EXAMPLE, planted("a(b c) e"), 1)

    def test_one_cut_or_put(self):
        self.check(EXAMPLE, planted("b c d"), 1)
        self.check(EXAMPLE, planted("a(b) d"), 1)
        self.check(EXAMPLE, planted("a(b c)"), 1)
        self.check(EXAMPLE, planted("e(a(b c) d)"), 1)
        self.check(EXAMPLE, planted("a(b e(c)) d"), 1)
        self.check(EXAMPLE, planted("a(b c e) d"), 1)

    def test_a_mark_that_is_the_beginning_of_another(self):
        self.check([("a",)], [("aa",)], 1)
        self.check([("ab", ("c",))], [("a", ("bc",))], 2)

    def test_the_same_marks_in_other_shapes(self):
        self.check(planted("a(b)"), planted("b(a)"), 2)
        self.check(planted("a b"), planted("b a"), 2)
        self.check(planted("a b"), planted("a(b)"), 2)
        self.check(planted("a(b c)"), planted("a(b) c"), 2)
        self.check(planted("a(b c)"), planted("a(b(c))"), 2)

    def test_knots_that_stay_under_others(self):
        self.check(EXAMPLE, planted("b e(c d)"), 2)
        self.check(planted("a(b(c d))"), planted("c a(d)"), 3)

    def test_nine_knots(self):
        self.check(deep(9), broad(9), 16)
        self.check(deep(9), deep(8), 1)
        self.check(broad(9), broad(2), 7)
        self.check(planted("a b c d e f g h i"), planted("i h g f e d c b a"), 8)
        self.check(planted("a(b(c(d(e(f(g(h(i))))))))"), planted("b(c(d(e(f(g(h(i(a))))))))"), 2)

    def test_somewhat_beyond_nine_knots(self):
        self.check(deep(14), broad(14), 26)
        self.check(deep(30), deep(27), 3)
        self.check(broad(30), [("b", *broad(30))], 1)

    def test_the_kind(self):
        for line in LINES:
            self.assertIs(type(cost(EXAMPLE, planted(line))), int)


class Reckoned(unittest.TestCase):
    """Against ways that are not the program's own."""

    def test_the_least_number_of_steps_between_small_rows(self):
        rows = {tuple(signs(row)): row for row in marked_rows(4, "ab")}
        beside = {
            written: {tuple(signs_behind(row, step)) for step in steps_on(row, "ab")} & set(rows)
            for written, row in rows.items()
        }
        for written, row in rows.items():
            if len(spans(row)) <= 3:
                most = 4 if len(spans(row)) <= 2 else 3
                for target, steps in self.all_from(written, beside).items():
                    if len(spans(rows[target])) <= most:
                        self.assertEqual(cost(row, rows[target]), steps, (written, target))

    def all_from(self, start, beside):
        steps = {start: 0}
        reached = [start]
        for written in reached:
            for further in sorted(beside[written]):
                if further not in steps:
                    steps[further] = steps[written] + 1
                    reached.append(further)
        self.assertEqual(len(steps), len(beside))
        return steps

    def test_the_least_matching_of_chosen_rows(self):
        for line in LINES:
            for other in LINES:
                with self.subTest(line=line, other=other):
                    row, opposite = planted(line), planted(other)
                    self.assertEqual(cost(row, opposite), least_by_trial(row, opposite))

    def test_the_least_matching_of_drawn_rows_of_up_to_nine_knots(self):
        draws = Draws(8)
        for marks in ["a", "ab", "abc", ["a", "aa", "ab", "b"], "abcdefghi"]:
            for count in [4, 5, 6, 7, 8, 9, 9, 9, 9, 9, 9]:
                row, other = draws.row(count, marks), draws.row(9 - draws.below(3), marks)
                with self.subTest(row=row, other=other):
                    self.assertEqual(cost(row, other), least_by_trial(row, other))


class Together(unittest.TestCase):
    def test_nought_just_for_the_same_row_and_the_same_either_way(self):
        rows = marked_rows(3, "ab") + [planted(line) for line in LINES]
        for row in rows:
            for other in rows:
                self.assertEqual(cost(row, other) == 0, row == other, (row, other))
                self.assertEqual(cost(row, other), cost(other, row), (row, other))

    def test_by_way_of_any_third_row(self):
        draws = Draws(3)
        drawn = [draws.row(count, "ab") for count in (4, 5, 6, 7, 8, 9, 9)]
        self.check_ways(marked_rows(2, "ab") + drawn)
        self.check_ways([planted(line) for line in LINES])

    def check_ways(self, rows):
        known = [[cost(row, other) for other in rows] for row in rows]
        for first in range(len(rows)):
            for second in range(len(rows)):
                for third in range(len(rows)):
                    self.assertLessEqual(known[first][third], known[first][second] + known[second][third])

    def test_one_step_costs_one(self):
        for row in small_rows(4):
            for step in steps_on(row):
                self.assertEqual(cost(row, done(row, step)), 1, (row, step))

    def test_never_more_than_the_steps_that_were_done(self):
        draws = Draws(5)
        for count in (0, 1, 3, 6, 7, 8, 9, 9, 9):
            row = draws.row(count, "ab")
            steps = []
            while len(steps) < 6:
                step = draws.one_of(steps_on(behind(row, steps), "ab"))
                if step[0] != "put" or len(spans(behind(row, steps))) < 9:
                    steps.append(step)
                    self.assertLessEqual(cost(row, behind(row, steps)), len(steps), (row, steps))


if __name__ == "__main__":
    unittest.main()
