"""Trees taken apart and put together: what the other modules have in common.

A path that is handed in here is known to lead to a knot, or is empty.
"""


def mark_of(tree):
    return tree[0]


def trees_under(tree):
    return list(tree[1:])


def knot(mark, trees):
    return tuple([mark] + trees)


def levels(row, path):
    found = [row]
    for place in path:
        found.append(trees_under(found[-1][place]))
    return found


def trees_at(row, path):
    return levels(row, path)[-1]


def mark_at(row, path):
    return mark_of(trees_at(row, path[:-1])[path[-1]])


def with_trees_at(row, path, trees):
    beside = levels(row, path)
    changed = list(trees)
    # A tuple can't be changed, so each knot on the way up is made anew.
    for depth in range(len(path) - 1, -1, -1):
        place = path[depth]
        level = beside[depth]
        tree = knot(mark_of(level[place]), changed)
        changed = level[:place] + [tree] + level[place + 1:]
    return changed
