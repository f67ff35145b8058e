"""Rows written as lines, and lines read to rows."""

from treetrim.errors import NoRow
from treetrim.rows import paths
from treetrim.shapes import knot, mark_at, mark_of

LETTERS = "abcdefghijklmnopqrstuvwxyz"

# What may stand side by side in a line, where an `a` stands for any letter.
NEIGHBOURS = ("aa", "a(", "a)", "a ", "(a", "))", ") ", " a")


def shown(row):
    line = ""
    depth = 0
    for path in paths(row):
        line += joint(depth, len(path)) + mark_at(row, path)
        depth = len(path)
    return line + closing(depth, 1)


def joint(depth, next_depth):
    # There is no knot yet that this one could stand behind.
    if depth == 0:
        return ""
    if next_depth > depth:
        return "("
    return closing(depth, next_depth) + " "


def closing(depth, next_depth):
    return ")" * max(0, depth - next_depth)


def read(line):
    if line == "":
        return []
    if not neighbours_fit(line) or not brackets_fit(line):
        raise NoRow(f"no row is written as {line!r}")
    return row_of(line)


def neighbours_fit(line):
    # Either end of a line is as it would be within brackets.
    ahead = "("
    for sign in line + ")":
        kind = "a" if sign in LETTERS else sign
        if ahead + kind not in NEIGHBOURS:
            return False
        ahead = kind
    return True


def brackets_fit(line):
    depth = 0
    for sign in line:
        if sign == "(":
            depth += 1
        if sign == ")":
            depth -= 1
        if depth < 0:
            return False
    return depth == 0


def row_of(line):
    levels = [[]]
    for word in line.replace("(", " ( ").replace(")", " ) ").split():
        if word == "(":
            levels.append([])
        elif word == ")":
            trees = levels.pop()
            above = levels[-1].pop()
            levels[-1].append(knot(mark_of(above), trees))
        else:
            levels[-1].append(knot(word, []))
    return levels[0]
