"""Rows for the tests, and a second way to do steps, to hold the program against.

The second way writes a row as a flat list of signs, a mark where a knot begins
and a `)` where it ends: a cut takes two signs out, a put sets two in.

The second way to a cost tries the pairs of knots one by one, as point 9 tells
what may be paired, with no thought of what lies under a knot or beside it.
"""

import ast
import itertools
import re

# The row of the line a(b c) d, which the document's examples speak of.
EXAMPLE = [("a", ("b",), ("c",)), ("d",)]

# The greatest number of sixty figures.
HUGE = 10 ** 60 - 1


def planted(line):
    """The row of a good line that is not too deep, by way of Python's own reading of tuples."""
    pieces = []
    for mark, sign in re.findall(r"([a-z]+\(?)|(\))", line):
        if sign:
            pieces.append("),")
        elif mark.endswith("("):
            pieces.append(f"('{mark[:-1]}',")
        else:
            pieces.append(f"('{mark}',),")
    return list(ast.literal_eval(f"[{''.join(pieces)}]"))


def deep(count):
    row = []
    for _ in range(count):
        row = [("a", *row)]
    return row


def broad(count):
    return [("a",)] * count


def shapes(count):
    """Every row of so many knots, all with the mark a."""
    if count == 0:
        return [[]]
    return [
        [("a", *under), *right]
        for below in range(count)
        for under in shapes(below)
        for right in shapes(count - 1 - below)
    ]


def numbered(row, marks):
    """The row with the marks of the iterator, in the order of the paths."""
    return [(next(marks), *numbered(tree[1:], marks)) for tree in row]


def small_rows(most):
    """Every row of at most so many knots, each knot with a mark of its own."""
    return [numbered(row, iter("abcdefghi")) for count in range(most + 1) for row in shapes(count)]


def marked_rows(most, marks):
    """Every row of at most so many knots, with every choice of these marks."""
    return [
        numbered(row, iter(chosen))
        for count in range(most + 1)
        for row in shapes(count)
        for chosen in itertools.product(marks, repeat=count)
    ]


class Draws:
    """Numbers that look drawn, but are the same on every run and every Python."""

    def __init__(self, seed):
        self.state = seed

    def below(self, bound):
        self.state = (self.state * 6364136223846793005 + 1442695040888963407) % 2 ** 64
        return (self.state >> 33) % bound

    def one_of(self, things):
        return things[self.below(len(things))]

    def row(self, count, marks):
        if count == 0:
            return []
        below = self.below(count)
        return [(self.one_of(marks), *self.row(below, marks)), *self.row(count - 1 - below, marks)]


def small_pairs():
    return itertools.product(marked_rows(3, "ab"), repeat=2)


def pairs_of_nine(seed):
    """Rows of nine knots two by two, from all marks alike to many different ones."""
    draws = Draws(seed)
    return [(draws.row(9, marks), draws.row(9, marks)) for marks in ("a", "ab", "abc", "abcdefghi") for _ in range(12)]


def larger_pairs(seed):
    """Rows somewhat beyond nine knots, two by two."""
    draws = Draws(seed)
    drawn = [(draws.row(count, "ab"), draws.row(count, "ab")) for count in (10, 12, 15, 20)]
    return [*drawn, (deep(30), broad(30))]


def signs(row):
    found = []
    for tree in row:
        found += [tree[0], *signs(tree[1:]), ")"]
    return found


def spans(row):
    """Where the knot of each path begins and ends in the signs."""
    found = {}
    path = [-1]
    begins = []
    for at, sign in enumerate(signs(row)):
        if sign == ")":
            path.pop()
            found[tuple(path)] = (begins.pop(), at)
        else:
            path[-1] += 1
            begins.append(at)
            path.append(-1)
    return found


def count_under(row, path):
    return sum(1 for other in spans(row) if other[:-1] == tuple(path))


def doable(row, step):
    known = spans(row)
    path = tuple(step[1])
    if step[0] != "put":
        return path in known
    if path == () or (path[:-1] != () and path[:-1] not in known):
        return False
    return path[-1] >= 0 and step[2] >= 0 and path[-1] + step[2] <= count_under(row, path[:-1])


def signs_behind(row, step):
    result = signs(row)
    known = spans(row)
    path = tuple(step[1])
    if step[0] == "mark":
        result[known[path][0]] = step[2]
    elif step[0] == "cut":
        del result[known[path][1]]
        del result[known[path][0]]
    else:
        above = known.get(path[:-1], (-1, len(result)))
        begin = known[path][0] if path in known else above[1]
        last = path[:-1] + (path[-1] + step[2] - 1,)
        end = known[last][1] + 1 if step[2] else begin
        result.insert(end, ")")
        result.insert(begin, step[3])
    return result


def steps_on(row, marks="x"):
    """Every step that can be done on the row, with these marks."""
    found = []
    for path in [(), *spans(row)]:
        if path:
            found += [("cut", list(path))] + [("mark", list(path), mark) for mark in marks]
        count = count_under(row, path)
        for place in range(count + 1):
            for many in range(count - place + 1):
                found += [("put", [*path, place], many, mark) for mark in marks]
    return found


def marks_by_path(row):
    written = signs(row)
    return {path: written[span[0]] for path, span in sorted(spans(row).items())}


def lies_under(path, above):
    return len(path) > len(above) and path[:len(above)] == above


def lies_left(path, right):
    return path < right and not lies_under(path, right) and not lies_under(right, path)


def go_together(pair, second):
    """Whether point 9 lets both pairs of paths be in one matching."""
    return (
        pair[0] != second[0]
        and pair[1] != second[1]
        and lies_under(pair[0], second[0]) == lies_under(pair[1], second[1])
        and lies_under(second[0], pair[0]) == lies_under(second[1], pair[1])
        and lies_left(pair[0], second[0]) == lies_left(pair[1], second[1])
        and lies_left(second[0], pair[0]) == lies_left(second[1], pair[1])
    )


def cost_of_matching(row, other, pairs):
    own, others = marks_by_path(row), marks_by_path(other)
    unlike = sum(1 for path, opposite in pairs if own[tuple(path)] != others[tuple(opposite)])
    return len(own) + len(others) - 2 * len(pairs) + unlike


def least_by_trial(row, other):
    """The least cost of a matching, each matching tried but where no better one can come of it."""
    own, others = list(marks_by_path(row).items()), list(marks_by_path(other).items())
    best = len(own) + len(others)

    def go_on(at, pairs, spent):
        nonlocal best
        best = min(best, spent)
        if at == len(own) or spent - 2 * min(len(own) - at, len(others) - len(pairs)) >= best:
            return
        path, mark = own[at]
        for opposite, other_mark in others:
            pair = (path, opposite)
            if all(go_together(pair, known) for known in pairs):
                go_on(at + 1, [*pairs, pair], spent - 2 + (mark != other_mark))
        go_on(at + 1, pairs, spent)

    go_on(0, [], best)
    return best
