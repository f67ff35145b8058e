"""Steps from one row to another: done, done one behind the other, and turned.

Each step takes some trees that stand beside one another, from the place that
the last number of its path tells on, and sets others in their place.
"""

from treetrim.errors import NoStep
from treetrim.rows import leads
from treetrim.shapes import knot, mark_of, trees_at, trees_under, with_trees_at


def done(row, step):
    taken = trees_taken(row, step)
    path = step[1]
    place = path[-1]
    beside = trees_at(row, path[:-1])
    changed = beside[:place] + trees_instead(step, taken) + beside[place + len(taken):]
    return with_trees_at(row, path[:-1], changed)


def behind(row, steps):
    current = list(row)
    for step in steps:
        current = done(current, step)
    return current


def turned(row, steps):
    current = row
    back = []
    for step in steps:
        back.append(led_back(current, step))
        current = done(current, step)
    back.reverse()
    return back


def trees_taken(row, step):
    path = step[1]
    if not path:
        raise NoStep("the empty path leads to no knot")
    if not leads(row, path[:-1]):
        raise NoStep(f"the path {path} without its last number leads to no knot")
    place = path[-1]
    many = how_many(step)
    beside = trees_at(row, path[:-1])
    if place < 0 or many < 0 or place + many > len(beside):
        raise NoStep(f"there are no {many} trees at the path {path}")
    return beside[place:place + many]


def how_many(step):
    if step[0] == "put":
        return step[2]
    return 1


def trees_instead(step, taken):
    if step[0] == "put":
        return [knot(step[3], taken)]
    if step[0] == "cut":
        return trees_under(taken[0])
    return [knot(step[2], trees_under(taken[0]))]


def led_back(row, step):
    taken = trees_taken(row, step)
    # A copy, so that the answer shares no list with the steps handed in.
    path = list(step[1])
    if step[0] == "put":
        return ("cut", path)
    tree = taken[0]
    if step[0] == "cut":
        return ("put", path, len(trees_under(tree)), mark_of(tree))
    return ("mark", path, mark_of(tree))
