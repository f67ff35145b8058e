"""Rows for the tests, and a second way to do steps, to hold the program against.

The second way writes a row as a flat list of signs, a mark where a knot begins
and a `)` where it ends: a cut takes two signs out, a put sets two in.
"""

# The row of the line a(b c) d, which the document's examples speak of.
EXAMPLE = [("a", ("b",), ("c",)), ("d",)]

# The greatest number of sixty figures.
HUGE = 10 ** 60 - 1


def deep(count):
    row = []
    for _ in range(count):
        row = [("a", *row)]
    return row


def broad(count):
    return [("a",)] * count


def shapes(count):
    """Every row of so many knots, all with the mark a."""
    if count == 0:
        return [[]]
    return [
        [("a", *under), *right]
        for below in range(count)
        for under in shapes(below)
        for right in shapes(count - 1 - below)
    ]


def numbered(row, marks):
    """The row with the marks of the iterator, in the order of the paths."""
    return [(next(marks), *numbered(tree[1:], marks)) for tree in row]


def small_rows(most):
    """Every row of at most so many knots, each knot with a mark of its own."""
    return [numbered(row, iter("abcdefghi")) for count in range(most + 1) for row in shapes(count)]


def signs(row):
    found = []
    for tree in row:
        found += [tree[0], *signs(tree[1:]), ")"]
    return found


def spans(row):
    """Where the knot of each path begins and ends in the signs."""
    found = {}
    path = [-1]
    begins = []
    for at, sign in enumerate(signs(row)):
        if sign == ")":
            path.pop()
            found[tuple(path)] = (begins.pop(), at)
        else:
            path[-1] += 1
            begins.append(at)
            path.append(-1)
    return found


def count_under(row, path):
    return sum(1 for other in spans(row) if other[:-1] == tuple(path))


def doable(row, step):
    known = spans(row)
    path = tuple(step[1])
    if step[0] != "put":
        return path in known
    if path == () or (path[:-1] != () and path[:-1] not in known):
        return False
    return path[-1] >= 0 and step[2] >= 0 and path[-1] + step[2] <= count_under(row, path[:-1])


def signs_behind(row, step):
    result = signs(row)
    known = spans(row)
    path = tuple(step[1])
    if step[0] == "mark":
        result[known[path][0]] = step[2]
    elif step[0] == "cut":
        del result[known[path][1]]
        del result[known[path][0]]
    else:
        above = known.get(path[:-1], (-1, len(result)))
        begin = known[path][0] if path in known else above[1]
        last = path[:-1] + (path[-1] + step[2] - 1,)
        end = known[last][1] + 1 if step[2] else begin
        result.insert(end, ")")
        result.insert(begin, step[3])
    return result


def steps_on(row):
    """Every step that can be done on the row, with one new mark."""
    found = []
    for path in [(), *spans(row)]:
        if path:
            found += [("mark", list(path), "x"), ("cut", list(path))]
        count = count_under(row, path)
        for place in range(count + 1):
            for many in range(count - place + 1):
                found.append(("put", [*path, place], many, "x"))
    return found
