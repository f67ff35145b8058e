"""Point 1: nothing that is handed in is changed, and nothing but that counts."""

import copy
import unittest

from helper import EXAMPLE, HUGE, broad, deep, planted
from treetrim.changing import changes
from treetrim.costs import cost
from treetrim.errors import NoStep
from treetrim.matching import matched
from treetrim.notes import read, shown
from treetrim.rows import leads, paths
from treetrim.steps import behind, done, turned

GOOD = [("mark", [0, 1], "e"), ("cut", [0]), ("put", [0], 2, "e"), ("put", [0, 2], 0, "e")]
BAD = [
    ("mark", [], "e"), ("mark", [5], "e"), ("cut", []), ("cut", [0, -1]), ("put", [], 0, "e"),
    ("put", [7, 0], 0, "e"), ("put", [-1], 0, "e"), ("put", [0], -1, "e"), ("put", [0, 1], HUGE, "e"),
]
# Handed in two by two; one is there twice, so that equal rows meet too.
ROWS = [[], EXAMPLE, planted("a(b c) d"), planted("b e(c d)"), planted("x(a y(b c) d)"), deep(9), broad(9)]


class Untouched(unittest.TestCase):
    def call(self, function, *handed):
        ahead = copy.deepcopy(handed)
        try:
            answer = function(*handed)
        except NoStep:
            answer = NoStep
        self.assertEqual(handed, ahead)
        return answer

    def test_paths(self):
        for row in ([], list(EXAMPLE), deep(110)):
            self.call(paths, row)

    def test_leads(self):
        for path in ([], [0], [0, 1], [1, 0], [-1], [HUGE], [0, -HUGE, 0]):
            self.call(leads, list(EXAMPLE), path)

    def test_a_step_that_is_done(self):
        for step in copy.deepcopy(GOOD):
            self.assertNotEqual(self.call(done, list(EXAMPLE), step), NoStep)

    def test_a_step_that_is_refused(self):
        for step in copy.deepcopy(BAD):
            self.assertEqual(self.call(done, list(EXAMPLE), step), NoStep)

    def test_several_steps(self):
        for function in (behind, turned):
            for step in GOOD:
                steps = copy.deepcopy([("mark", [0], "f"), step, ("mark", [0], "g")])
                self.assertNotEqual(self.call(function, list(EXAMPLE), steps), NoStep)
            self.call(function, list(EXAMPLE), [])

    def test_several_steps_one_of_which_is_refused(self):
        for function in (behind, turned):
            for step in BAD:
                steps = copy.deepcopy([("mark", [0], "f"), step, ("mark", [0], "g")])
                self.assertEqual(self.call(function, list(EXAMPLE), steps), NoStep)

    def test_two_rows(self):
        for function in (cost, matched, changes):
            for row in copy.deepcopy(ROWS):
                for other in copy.deepcopy(ROWS):
                    self.call(function, row, other)
                self.call(function, row, row)

    def test_a_row_that_is_shown(self):
        for row in (*copy.deepcopy(ROWS), deep(110), broad(110)):
            self.call(shown, row)


class NothingShared(unittest.TestCase):
    """A later change of an answer must not reach what was handed in."""

    def test_the_row_behind_a_step(self):
        for step in GOOD:
            row = list(EXAMPLE)
            done(row, step).clear()
            self.assertEqual(row, EXAMPLE)

    def test_the_row_behind_steps(self):
        for steps in ([], [("mark", [0], "a")], GOOD[:1]):
            row = list(EXAMPLE)
            behind(row, steps).clear()
            self.assertEqual(row, EXAMPLE)

    def test_steps_turned(self):
        steps = copy.deepcopy(GOOD[:3])
        for step in turned(EXAMPLE, steps):
            step[1].append(9)
        self.assertEqual(steps, GOOD[:3])
        none = []
        turned(EXAMPLE, none).append(1)
        self.assertEqual(none, [])

    def test_paths(self):
        for path in paths(EXAMPLE):
            path.append(9)
        self.assertEqual(paths(EXAMPLE), [[0], [0, 0], [0, 1], [1]])

    def test_lists_of_a_matching(self):
        self.check_apart([path for pair in matched(EXAMPLE, EXAMPLE) for path in pair])

    def test_lists_of_changes(self):
        self.check_apart([step[1] for step in changes(EXAMPLE, planted("x(b e(c(d)))"))])

    def check_apart(self, lists):
        ahead = copy.deepcopy(lists)
        for place, found in enumerate(lists):
            found.append(9)
            self.assertEqual(lists[place + 1:], ahead[place + 1:])

    def test_a_row_that_is_read(self):
        for line in ("", "a(b c) d"):
            row = read(line)
            read(line).append(("x",))
            self.assertEqual(read(line), row)


class TheSameAgain(unittest.TestCase):
    def test_the_same_is_answered_again(self):
        for step in GOOD:
            self.assertEqual(done(EXAMPLE, step), done(EXAMPLE, step))
            self.assertEqual(turned(EXAMPLE, [step]), turned(EXAMPLE, [step]))
        for function in (cost, matched, changes):
            for row in ROWS:
                self.assertEqual(function(EXAMPLE, row), function(list(EXAMPLE), list(row)))


if __name__ == "__main__":
    unittest.main()
