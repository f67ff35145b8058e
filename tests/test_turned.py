"""Point 7: steps turned."""

import unittest

from helper import EXAMPLE, small_rows, steps_on
from treetrim.steps import behind, done, turned


class OneStep(unittest.TestCase):
    def check(self, row, step, expected):
        with self.subTest(row=row, step=step):
            self.assertEqual(turned(row, [step]), [expected])
            self.assertEqual(done(done(row, step), expected), row)

    def test_a_mark_by_the_mark_ahead(self):
        self.check(EXAMPLE, ("mark", [0], "e"), ("mark", [0], "a"))
        self.check(EXAMPLE, ("mark", [0, 1], "e"), ("mark", [0, 1], "c"))

    def test_a_mark_that_the_knot_has_already(self):
        self.check(EXAMPLE, ("mark", [0], "a"), ("mark", [0], "a"))

    def test_a_cut_of_a_knot_with_no_tree_under_it(self):
        self.check(EXAMPLE, ("cut", [1]), ("put", [1], 0, "d"))
        self.check(EXAMPLE, ("cut", [0, 1]), ("put", [0, 1], 0, "c"))
        self.check([("a",)], ("cut", [0]), ("put", [0], 0, "a"))

    def test_a_cut_of_a_knot_with_one_under_it(self):
        self.check([("a", ("b", ("c",), ("d",)))], ("cut", [0]), ("put", [0], 1, "a"))

    def test_a_cut_of_a_knot_with_several_under_it(self):
        self.check(EXAMPLE, ("cut", [0]), ("put", [0], 2, "a"))
        self.check([("a", ("b", ("c",), ("d",), ("e",)))], ("cut", [0, 0]), ("put", [0, 0], 3, "b"))

    def test_a_put_over_no_tree(self):
        self.check(EXAMPLE, ("put", [2], 0, "e"), ("cut", [2]))
        self.check(EXAMPLE, ("put", [1, 0], 0, "e"), ("cut", [1, 0]))
        self.check([], ("put", [0], 0, "e"), ("cut", [0]))

    def test_a_put_over_one_tree(self):
        self.check(EXAMPLE, ("put", [0, 1], 1, "e"), ("cut", [0, 1]))

    def test_a_put_over_several(self):
        self.check(EXAMPLE, ("put", [0], 2, "e"), ("cut", [0]))


class SeveralSteps(unittest.TestCase):
    def test_from_the_last_to_the_first(self):
        steps = [("cut", [0]), ("mark", [2], "x"), ("put", [0], 2, "e")]
        back = [("cut", [0]), ("mark", [2], "d"), ("put", [0], 2, "a")]
        self.assertEqual(turned(EXAMPLE, steps), back)
        self.assertEqual(behind(behind(EXAMPLE, steps), back), EXAMPLE)

    def test_the_mark_ahead_is_that_of_the_row_behind_the_steps_ahead(self):
        steps = [("mark", [1], "e"), ("mark", [1], "f"), ("cut", [1])]
        back = [("put", [1], 0, "f"), ("mark", [1], "e"), ("mark", [1], "d")]
        self.assertEqual(turned(EXAMPLE, steps), back)

    def test_the_trees_under_a_knot_are_counted_behind_the_steps_ahead(self):
        steps = [("put", [0, 2], 0, "e"), ("cut", [0])]
        self.assertEqual(turned(EXAMPLE, steps), [("put", [0], 3, "a"), ("cut", [0, 2])])

    def test_no_steps(self):
        self.assertEqual(turned(EXAMPLE, []), [])
        self.assertEqual(turned([], []), [])

    def test_a_row_of_nine_knots_cut_down(self):
        row = [("a", ("b", ("c",), ("d",)), ("e",)), ("f", ("g", ("h", ("i",))))]
        steps = [("cut", [0])] * 9
        self.assertEqual(behind(row, steps), [])
        self.assertEqual(behind([], turned(row, steps)), row)

    def test_every_one_and_two_steps_on_every_small_row_lead_back(self):
        for row in small_rows(3):
            for first in steps_on(row):
                for second in steps_on(done(row, first)):
                    self.check(row, [first])
                    self.check(row, [first, second])

    def check(self, row, steps):
        back = turned(row, steps)
        self.assertEqual(behind(behind(row, steps), back), row, (row, steps))
        self.assertEqual([step[1] for step in back], [step[1] for step in reversed(steps)])

    def test_turned_twice_they_are_the_first_ones(self):
        steps = [("cut", [0]), ("mark", [2], "x"), ("put", [0], 2, "e"), ("put", [0, 2], 0, "f")]
        back = turned(EXAMPLE, steps)
        self.assertEqual(turned(behind(EXAMPLE, steps), back), steps)

    def test_the_kinds(self):
        back = turned(EXAMPLE, [("mark", [0], "e"), ("cut", [0]), ("put", [0], 1, "e")])
        self.assertIs(type(back), list)
        for step in back:
            self.assertIs(type(step), tuple)
            self.assertIs(type(step[1]), list)


if __name__ == "__main__":
    unittest.main()
