"""Points 4 and 6: what each step does, and steps one behind the other."""

import unittest

from helper import EXAMPLE, broad, deep, signs, signs_behind, small_rows, steps_on
from treetrim.rows import leads
from treetrim.steps import behind, done


class Step(unittest.TestCase):
    def check(self, row, step, expected):
        with self.subTest(row=row, step=step):
            self.assertEqual(done(row, step), expected)
            self.assertEqual(behind(row, [step]), expected)


class TheExamples(Step):
    def test_the_path_to_c(self):
        self.assertIs(leads(EXAMPLE, [0, 1]), True)
        self.check(EXAMPLE, ("mark", [0, 1], "x"), [("a", ("b",), ("x",)), ("d",)])

    def test_cut(self):
        self.check(EXAMPLE, ("cut", [0]), [("b",), ("c",), ("d",)])

    def test_put_over_two_trees_of_the_row(self):
        self.check(EXAMPLE, ("put", [0], 2, "e"), [("e", ("a", ("b",), ("c",)), ("d",))])

    def test_put_over_one_tree_under_a_knot(self):
        self.check(EXAMPLE, ("put", [0, 1], 1, "e"), [("a", ("b",), ("e", ("c",))), ("d",)])

    def test_put_over_no_tree_behind_the_last(self):
        self.check(EXAMPLE, ("put", [0, 2], 0, "e"), [("a", ("b",), ("c",), ("e",)), ("d",)])

    def test_mark(self):
        self.check(EXAMPLE, ("mark", [1], "e"), [("a", ("b",), ("c",)), ("e",)])


class Mark(Step):
    def test_a_tree_of_the_row_keeps_what_is_under_it(self):
        self.check(EXAMPLE, ("mark", [0], "e"), [("e", ("b",), ("c",)), ("d",)])

    def test_deeper(self):
        self.check(EXAMPLE, ("mark", [0, 0], "e"), [("a", ("e",), ("c",)), ("d",)])
        row = [("a", ("b", ("c", ("d",)), ("e",)))]
        self.check(row, ("mark", [0, 0, 0], "x"), [("a", ("b", ("x", ("d",)), ("e",)))])

    def test_a_mark_that_the_knot_has_already(self):
        self.check(EXAMPLE, ("mark", [0], "a"), EXAMPLE)
        self.check(EXAMPLE, ("mark", [0, 1], "c"), EXAMPLE)

    def test_a_long_mark(self):
        self.check(EXAMPLE, ("mark", [1], "z" * 28), [("a", ("b",), ("c",)), ("z" * 28,)])


class Cut(Step):
    def test_a_tree_of_the_row_with_no_tree_under_it(self):
        self.check(EXAMPLE, ("cut", [1]), [("a", ("b",), ("c",))])

    def test_the_last_knot_of_a_row(self):
        self.check([("a",)], ("cut", [0]), [])

    def test_a_tree_of_the_row_with_one_under_it(self):
        self.check([("a",), ("b", ("c", ("d",))), ("e",)], ("cut", [1]), [("a",), ("c", ("d",)), ("e",)])

    def test_deeper_with_no_tree_under_it(self):
        self.check(EXAMPLE, ("cut", [0, 0]), [("a", ("c",)), ("d",)])

    def test_deeper_with_one_under_it(self):
        self.check([("a", ("b", ("c", ("d",))))], ("cut", [0, 0]), [("a", ("c", ("d",)))])

    def test_deeper_with_several_under_it(self):
        row = [("a", ("b",), ("c", ("d",), ("e", ("f",)), ("g",)), ("h",))]
        self.check(row, ("cut", [0, 1]), [("a", ("b",), ("d",), ("e", ("f",)), ("g",), ("h",))])


class Put(Step):
    def test_over_no_tree_of_the_row(self):
        self.check(EXAMPLE, ("put", [0], 0, "e"), [("e",), ("a", ("b",), ("c",)), ("d",)])
        self.check(EXAMPLE, ("put", [1], 0, "e"), [("a", ("b",), ("c",)), ("e",), ("d",)])

    def test_over_no_tree_behind_the_last_of_the_row(self):
        self.check(EXAMPLE, ("put", [2], 0, "e"), [("a", ("b",), ("c",)), ("d",), ("e",)])

    def test_over_no_tree_in_the_empty_row(self):
        self.check([], ("put", [0], 0, "e"), [("e",)])

    def test_over_no_tree_under_a_knot_with_none_under_it(self):
        self.check(EXAMPLE, ("put", [1, 0], 0, "e"), [("a", ("b",), ("c",)), ("d", ("e",))])
        self.check(EXAMPLE, ("put", [0, 1, 0], 0, "e"), [("a", ("b",), ("c", ("e",))), ("d",)])

    def test_over_no_tree_deeper(self):
        self.check(EXAMPLE, ("put", [0, 0], 0, "e"), [("a", ("e",), ("b",), ("c",)), ("d",)])
        self.check(EXAMPLE, ("put", [0, 1], 0, "e"), [("a", ("b",), ("e",), ("c",)), ("d",)])

    def test_over_one_tree_of_the_row(self):
        self.check(EXAMPLE, ("put", [0], 1, "e"), [("e", ("a", ("b",), ("c",))), ("d",)])
        self.check(EXAMPLE, ("put", [1], 1, "e"), [("a", ("b",), ("c",)), ("e", ("d",))])

    def test_over_several_trees_of_the_row(self):
        row = [("a",), ("b",), ("c",), ("d",)]
        self.check(row, ("put", [1], 2, "e"), [("a",), ("e", ("b",), ("c",)), ("d",)])
        self.check(row, ("put", [1], 3, "e"), [("a",), ("e", ("b",), ("c",), ("d",))])

    def test_over_several_trees_deeper(self):
        self.check(EXAMPLE, ("put", [0, 0], 2, "e"), [("a", ("e", ("b",), ("c",))), ("d",)])


class OneBehindTheOther(Step):
    def test_the_example(self):
        row = behind(EXAMPLE, [("cut", [0])])
        self.check(row, ("mark", [0], "x"), [("x",), ("c",), ("d",)])
        self.check(row, ("mark", [1], "x"), [("b",), ("x",), ("d",)])
        self.check(row, ("mark", [2], "x"), [("b",), ("c",), ("x",)])

    def test_each_path_is_one_of_the_row_behind_the_steps_ahead(self):
        steps = [("cut", [0]), ("mark", [2], "x"), ("put", [0], 2, "e"), ("cut", [0, 1])]
        self.assertEqual(behind(EXAMPLE, steps), [("e", ("b",)), ("x",)])

    def test_the_other_order_leads_elsewhere(self):
        steps = [("cut", [0]), ("mark", [0], "x")]
        self.assertEqual(behind(EXAMPLE, steps), [("x",), ("c",), ("d",)])
        self.assertEqual(behind(EXAMPLE, steps[::-1]), [("b",), ("c",), ("d",)])

    def test_no_steps(self):
        self.assertEqual(behind(EXAMPLE, []), EXAMPLE)
        self.assertEqual(behind([], []), [])

    def test_a_row_built_and_cut_down_again(self):
        puts = [("put", [0], 1 if count else 0, "a") for count in range(110)]
        self.assertEqual(behind([], puts), deep(110))
        self.assertEqual(behind(deep(110), [("cut", [0])] * 110), [])


class LargeRows(Step):
    def test_deep(self):
        row = deep(110)
        self.check(row, ("cut", [0] * 110), deep(109))
        self.check(row, ("cut", [0] * 50), deep(109))
        self.check(deep(109), ("put", [0] * 110, 0, "a"), row)
        self.check(deep(109), ("put", [0] * 50, 1, "a"), row)
        self.check(row, ("mark", [0] * 60, "a"), row)

    def test_broad(self):
        row = broad(110)
        self.check(row, ("cut", [109]), broad(109))
        self.check(row, ("mark", [109], "b"), broad(109) + [("b",)])
        self.check(row, ("put", [0], 110, "b"), [("b", *row)])
        self.check(row, ("put", [110], 0, "b"), row + [("b",)])
        self.check([("b", *row)], ("cut", [0]), row)

    def test_beyond_the_bound(self):
        self.check(deep(300), ("cut", [0] * 200), deep(299))


class EverySmallRow(unittest.TestCase):
    def test_every_step_that_can_be_done(self):
        for row in small_rows(5):
            for step in steps_on(row):
                with self.subTest(row=row, step=step):
                    result = done(row, step)
                    self.assertEqual(signs(result), signs_behind(row, step))

    def test_the_kinds(self):
        def check(trees):
            for tree in trees:
                self.assertIs(type(tree), tuple)
                self.assertIs(type(tree[0]), str)
                check(tree[1:])

        for step in steps_on(EXAMPLE):
            result = done(EXAMPLE, step)
            self.assertIs(type(result), list)
            check(result)


if __name__ == "__main__":
    unittest.main()
