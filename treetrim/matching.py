"""The matching of two rows: which knots stay on the way from one to the other."""

from treetrim.costs import best_choice
from treetrim.rows import paths


def matched(row, other):
    own = paths(row)
    others = paths(other)
    return [(own[first], others[second]) for first, second in numbers_matched(row, other)]


def numbers_matched(row, other):
    pairs = []
    waiting = [best_choice(row, other)]
    while waiting:
        choice = waiting.pop()
        pairs.extend(choice.pairs)
        waiting.extend(choice.parts)
    return sorted(pairs)
