"""The fewest steps from one row to another.

The knots that stay get their marks, and those of the first row without a pair
are cut. What is left is the other row without its own knots that have no pair;
so these are put by turning the steps that would cut them.
"""

from treetrim.matching import matched
from treetrim.rows import paths
from treetrim.shapes import mark_at
from treetrim.steps import turned


def changes(row, other):
    pairs = matched(row, other)
    cuts = cuts_of_others(row, [path for path, opposite in pairs])
    other_cuts = cuts_of_others(other, [opposite for path, opposite in pairs])
    return marks_changed(row, other, pairs) + cuts + turned(other, other_cuts)


def marks_changed(row, other, pairs):
    steps = []
    for path, opposite in pairs:
        mark = mark_at(other, opposite)
        if mark != mark_at(row, path):
            steps.append(("mark", path, mark))
    return steps


def cuts_of_others(row, staying):
    # From the last to the first: a cut moves only knots that come behind it.
    return [("cut", path) for path in reversed(paths(row)) if path not in staying]
