"""The paths of a row: which there are, and whether one leads to a knot."""

from treetrim.shapes import trees_under


def paths(row):
    found = []
    # Level by level, since a row may be deeper than recursion is safe for.
    level = [([], row)]
    while level:
        deeper = []
        for path, trees in level:
            for place, tree in enumerate(trees):
                deeper.append((path + [place], trees_under(tree)))
        found.extend([path for path, trees in deeper])
        level = deeper
    return sorted(found)


def leads(row, path):
    trees = row
    for place in path:
        # Python would count a place below nought from the right.
        if place < 0 or place >= len(trees):
            return False
        trees = trees_under(trees[place])
    return True
