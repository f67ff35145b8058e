"""Points 4 to 6 and 9: the steps from one row to another, as many as the cost."""

import unittest

from helper import (
    EXAMPLE, Draws, broad, deep, doable, larger_pairs, least_by_trial, pairs_of_nine, planted, signs, signs_behind,
    small_pairs, spans, steps_on,
)
from treetrim.changing import changes
from treetrim.costs import cost
from treetrim.steps import behind, done, turned


class Checked(unittest.TestCase):
    def check(self, row, other):
        steps = changes(row, other)
        about = (row, other, steps)
        self.check_kinds(steps)
        self.assertEqual(len(steps), cost(row, other), about)
        self.assertEqual(behind(row, steps), other, about)
        self.assertEqual(behind(other, turned(row, steps)), row, about)
        return steps

    def check_kinds(self, steps):
        self.assertIs(type(steps), list)
        for step in steps:
            kinds = {"mark": (str, list, str), "cut": (str, list), "put": (str, list, int, str)}[step[0]]
            self.assertIs(type(step), tuple)
            self.assertEqual(tuple(type(value) for value in step), kinds)
            self.assertEqual({type(place) for place in step[1]}, {int})

    def check_a_second_way(self, row, other):
        """Each step done as the tests do it, and the number of steps reckoned by trial."""
        steps = self.check(row, other)
        current = row
        for step in steps:
            self.assertTrue(doable(current, step), (row, other, steps))
            written = signs_behind(current, step)
            current = done(current, step)
            self.assertEqual(signs(current), written, (row, other, steps))
        self.assertEqual(signs(current), signs(other), (row, other, steps))
        self.assertEqual(len(steps), least_by_trial(row, other), (row, other, steps))


class Chosen(Checked):
    def test_the_example(self):
        steps = self.check(EXAMPLE, planted("b e(c d)"))
        self.assertCountEqual([step[0] for step in steps], ["cut", "put"])

    def test_from_and_to_the_empty_row(self):
        for row in (EXAMPLE, deep(9), broad(9), [("a",)], planted("a(b(c) d(e f)) g(h i)")):
            self.assertEqual({step[0] for step in self.check(row, [])}, {"cut"})
            self.assertEqual({step[0] for step in self.check([], row)}, {"put"})

    def test_no_step_between_equal_rows(self):
        for row in ([], EXAMPLE, deep(9), broad(9), planted("a(a(a a) a) a(a(a a))")):
            self.assertEqual(changes(row, list(row)), [])

    def test_one_step(self):
        self.assertEqual(self.check(EXAMPLE, planted("a(b c) e")), [("mark", [1], "e")])
        self.assertEqual(self.check(EXAMPLE, planted("a(b e) d")), [("mark", [0, 1], "e")])
        self.assertEqual(self.check(EXAMPLE, planted("b c d")), [("cut", [0])])
        self.assertEqual(self.check(EXAMPLE, planted("e(a(b c) d)")), [("put", [0], 2, "e")])
        self.assertEqual(self.check(EXAMPLE, planted("a(b e(c)) d")), [("put", [0, 1], 1, "e")])
        self.assertEqual(self.check(EXAMPLE, planted("a(b c e) d")), [("put", [0, 2], 0, "e")])

    def test_knots_cut_and_put_around_others_that_stay(self):
        for line, other in [
            ("a(b c d)", "e(b) f(c d)"),
            ("a(b(c(d)))", "c(e(d))"),
            ("x(a y(b) c)", "a z(b c)"),
            ("x(y(a b) z(c d))", "u(a) v(w(b c) d)"),
            ("x(x(x(a)))", "y(a y(y))"),
            ("a(b c) d(e f) g(h i)", "b x(c d y(e) f) g(z(h i))"),
            ("a x b x c x d", "y(a y(b y(c y(d))))"),
        ]:
            self.check_a_second_way(planted(line), planted(other))
            self.check_a_second_way(planted(other), planted(line))

    def test_marks_changed_beside_cuts_and_puts(self):
        kinds = [step[0] for step in self.check(planted("a(b(c) d)"), planted("b(e) x(d y)"))]
        self.assertEqual(len(kinds), least_by_trial(planted("a(b(c) d)"), planted("b(e) x(d y)")))
        self.assertIn("mark", kinds)

    def test_somewhat_beyond_nine_knots(self):
        for row, other in larger_pairs(21):
            self.check(row, other)


class ManyRows(Checked):
    def test_every_two_small_rows(self):
        for row, other in small_pairs():
            self.check_a_second_way(row, other)

    def test_drawn_rows_of_nine_knots(self):
        for row, other in pairs_of_nine(17):
            self.check_a_second_way(row, other)

    def test_no_more_steps_than_were_done(self):
        draws = Draws(31)
        for _ in range(20):
            row = draws.row(6, "abc")
            steps = []
            for _ in range(3):
                steps.append(draws.one_of(steps_on(behind(row, steps), "abc")))
            self.assertLessEqual(len(spans(behind(row, steps))), 9)
            self.assertLessEqual(len(self.check(row, behind(row, steps))), 3, (row, steps))


if __name__ == "__main__":
    unittest.main()
