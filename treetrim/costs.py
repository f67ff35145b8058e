"""The cost between two rows, and the choices that lead to it.

The knots of a row are numbered in the order of their paths, so that those
under a knot come right behind it. A stretch is a tuple of two numbers: it
holds the knots from the first number on, up to the second one and without it.
"""

from treetrim.rows import paths
from treetrim.shapes import mark_at


class Outline:
    def __init__(self, row):
        own = paths(row)
        self.marks = [mark_at(row, path) for path in own]
        self.ends = [end_under(own, first) for first in range(len(own))]


class Choice:
    def __init__(self, steps, pairs, parts):
        self.steps = steps + sum([part.steps for part in parts])
        self.pairs = pairs
        self.parts = parts


def cost(row, other):
    return best_choice(row, other).steps


def best_choice(row, other):
    here = Outline(row)
    there = Outline(other)
    opposites = stretches(there)
    best = {}
    for stretch in stretches(here):
        for opposite in opposites:
            found = choices(best, here, there, stretch, opposite)
            best[(stretch, opposite)] = min(found, key=lambda choice: choice.steps)
    return best[(whole(here), whole(there))]


def end_under(own, first):
    end = first + 1
    while end < len(own) and len(own[end]) > len(own[first]):
        end += 1
    return end


def whole(outline):
    return (0, len(outline.marks))


def stretches(outline):
    found = {}
    below = [under(outline, number) for number in range(len(outline.marks))]
    for first, end in [whole(outline)] + below:
        for later in range(first, end + 1):
            found[(later, end)] = True
    # The parts of a choice begin further on, and are to be known ahead of it.
    return sorted(found, reverse=True)


def under(outline, first):
    return (first + 1, outline.ends[first])


def right_of(outline, stretch):
    return (outline.ends[stretch[0]], stretch[1])


def without_first(stretch):
    return (stretch[0] + 1, stretch[1])


def choices(best, here, there, stretch, opposite):
    found = []
    if stretch[0] < stretch[1] and opposite[0] < opposite[1]:
        found.append(staying(best, here, there, stretch, opposite))
    if stretch[0] < stretch[1]:
        found.append(Choice(1, [], [best[(without_first(stretch), opposite)]]))
    if opposite[0] < opposite[1]:
        found.append(Choice(1, [], [best[(stretch, without_first(opposite))]]))
    if not found:
        found.append(Choice(0, [], []))
    return found


def staying(best, here, there, stretch, opposite):
    first = stretch[0]
    second = opposite[0]
    # What lies under a knot that stays, or to its right, does so on both sides.
    below = best[(under(here, first), under(there, second))]
    beside = best[(right_of(here, stretch), right_of(there, opposite))]
    steps = 0 if here.marks[first] == there.marks[second] else 1
    return Choice(steps, [(first, second)], [below, beside])
