"""Point 5: the steps that are refused, and the errors they are refused with."""

import unittest

from helper import EXAMPLE, HUGE, broad, doable, small_rows
from treetrim.errors import NoRow, NoStep, TreeError
from treetrim.steps import behind, done, turned


class Refusals(unittest.TestCase):
    def refused(self, row, *steps):
        for step in steps:
            with self.subTest(row=row, step=step):
                self.assertRaises(NoStep, done, row, step)
                self.assertRaises(NoStep, behind, row, [step])
                self.assertRaises(NoStep, turned, row, [step])

    def refused_at(self, *paths):
        self.refused(EXAMPLE, *(self.step(path) for path in paths))


class Errors(unittest.TestCase):
    def test_the_classes(self):
        self.assertEqual(TreeError.__bases__, (ValueError,))
        self.assertEqual(NoStep.__bases__, (TreeError,))
        self.assertEqual(NoRow.__bases__, (TreeError,))

    def test_a_refusal_is_taken_under_each_of_its_classes(self):
        for kind in (NoStep, TreeError, ValueError):
            with self.subTest(kind=kind):
                with self.assertRaises(kind) as taken:
                    done([], ("cut", [0]))
                self.assertIs(type(taken.exception), NoStep)


class AtAKnot:
    """What is asked alike of a mark and of a cut."""

    def test_the_empty_path(self):
        self.refused_at([])

    def test_a_number_below_nought(self):
        self.refused_at([-1], [-2], [-3], [0, -1], [0, -2], [-HUGE], [0, -HUGE])

    def test_a_number_of_as_many_trees_or_more(self):
        self.refused_at([2], [3], [0, 2], [0, 3], [HUGE], [0, HUGE])
        self.refused(broad(110), self.step([110]))

    def test_a_number_more_behind_a_knot_with_no_tree_under_it(self):
        self.refused_at([1, 0], [0, 1, 0], [1, -1], [1, HUGE], [1, -HUGE])

    def test_a_wrong_number_ahead_of_the_last(self):
        self.refused_at([-2, 0], [2, 0], [HUGE, 0], [-HUGE, 0], [0, -2, 0], [0, HUGE, 0])

    def test_the_empty_row(self):
        self.refused([], self.step([]), self.step([0]), self.step([-1]))


class AMark(AtAKnot, Refusals):
    def step(self, path):
        return ("mark", path, "e")

    def test_the_mark_that_the_knot_counted_from_the_right_has(self):
        self.refused(EXAMPLE, ("mark", [-1], "d"), ("mark", [-2, 0], "b"), ("mark", [0, -1], "c"))


class ACut(AtAKnot, Refusals):
    def step(self, path):
        return ("cut", path)


class APut(Refusals):
    def puts(self, path, *manies):
        self.refused(EXAMPLE, *(("put", path, many, "e") for many in manies))

    def test_the_empty_path(self):
        self.puts([], 0, 1, 2, -1, HUGE, -HUGE)
        self.refused([], ("put", [], 0, "e"))

    def test_the_path_ahead_of_the_place_leads_below_nought(self):
        self.puts([-1, 0], 0, 1)
        self.puts([-2, 0], 0, 1)
        self.puts([0, -1, 0], 0)
        self.puts([-HUGE, 0], 0)

    def test_the_path_ahead_of_the_place_leads_beyond_the_trees(self):
        self.puts([2, 0], 0, 1)
        self.puts([0, 2, 0], 0)
        self.puts([HUGE, 0], 0)
        self.refused([], ("put", [0, 0], 0, "e"))

    def test_the_path_ahead_of_the_place_leads_below_a_knot_with_no_tree(self):
        self.puts([1, 0, 0], 0)
        self.puts([0, 1, 0, 0], 0)

    def test_the_place_is_below_nought(self):
        for place in (-1, -2, -3, -HUGE):
            self.puts([place], 0, 1, 2)
            self.puts([0, place], 0, 1, 2)
            self.refused([], ("put", [place], 0, "e"))

    def test_the_place_is_below_nought_and_with_many_it_is_not(self):
        self.puts([-1], 1, 2, 3)
        self.puts([0, -HUGE], HUGE)

    def test_many_is_below_nought(self):
        for place in (0, 1, 2):
            self.puts([place], -1, -2, -HUGE)
            self.puts([0, place], -1, -2, -HUGE)
        self.refused([], ("put", [0], -1, "e"))

    def test_many_is_below_nought_and_with_the_place_it_is_not(self):
        self.puts([3], -1, -2, -3)
        self.puts([0, HUGE], -HUGE)

    def test_the_place_is_beyond_the_end(self):
        self.puts([3], 0, 1)
        self.puts([0, 3], 0, 1)
        self.puts([1, 1], 0)
        self.puts([HUGE], 0, HUGE)
        self.puts([0, HUGE], 0, HUGE)
        self.refused([], ("put", [1], 0, "e"))

    def test_many_is_more_than_there_are_trees(self):
        self.puts([0], 3, HUGE)
        self.puts([0, 0], 3, HUGE)
        self.puts([1, 0], 1, HUGE)
        self.refused([], ("put", [0], 1, "e"))
        self.refused(broad(110), ("put", [0], 111, "e"))

    def test_place_and_many_together_are_more_than_there_are_trees(self):
        self.puts([1], 2)
        self.puts([2], 1)
        self.puts([0, 1], 2)
        self.puts([0, 2], 1)
        self.refused(broad(110), ("put", [100], 11, "e"))


class EverySmallRow(unittest.TestCase):
    def test_a_step_is_refused_just_where_it_cannot_be_done(self):
        numbers = range(-2, 5)
        tried = [[]]
        for _ in range(3):
            tried += [[*path, number] for path in tried for number in numbers if [*path, number] not in tried]
        for row in small_rows(3):
            for path in tried:
                steps = [("mark", path, "e"), ("cut", path)]
                for step in steps + [("put", path, many, "e") for many in numbers]:
                    self.check(row, step)

    def check(self, row, step):
        try:
            done(row, step)
        except NoStep:
            self.assertFalse(doable(row, step), (row, step))
        else:
            self.assertTrue(doable(row, step), (row, step))


class OneOfSeveral(unittest.TestCase):
    def check(self, steps):
        for call in (behind, turned):
            with self.subTest(call=call, steps=steps):
                self.assertRaises(NoStep, call, EXAMPLE, steps)

    def test_the_first(self):
        self.check([("cut", [5]), ("cut", [0])])

    def test_one_between(self):
        self.check([("cut", [0]), ("put", [0], -1, "e"), ("cut", [0])])

    def test_the_last(self):
        self.check([("cut", [0]), ("cut", [0]), ("mark", [2], "e")])

    def test_a_path_of_the_first_row_that_leads_nowhere_any_more(self):
        self.check([("cut", [0]), ("mark", [0, 1], "e")])

    def test_a_path_of_the_first_row_alone_is_not_asked(self):
        steps = [("cut", [0]), ("mark", [2], "e")]
        self.assertEqual(behind(EXAMPLE, steps), [("b",), ("c",), ("e",)])
        self.assertEqual(len(turned(EXAMPLE, steps)), 2)


if __name__ == "__main__":
    unittest.main()
