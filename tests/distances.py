"""Distances for the tests, made by other means than the program's."""


def flat(rows):
    """The rows one behind another, as the calls take them."""
    return [number for row in rows for number in row]


def by_pairs(n, pair):
    """The rows of n kinds, where pair(i, j) tells how far i < j are apart."""
    return [[0 if i == j else pair(min(i, j), max(i, j)) for j in range(n)] for i in range(n)]


def star(ends):
    """The rows of kinds that hang on one point, kind i by a way as long as ends[i]."""
    return by_pairs(len(ends), lambda i, j: ends[i] + ends[j])


def comb(n):
    """The rows of kinds that hang one by one along a line, at 3, 6, 9 .., by ways of unlike lengths."""
    ends = [1 + i * 5 % 7 for i in range(n)]
    return by_pairs(n, lambda i, j: ends[i] + 3 * (j - i) + ends[j])


def grown(parents):
    """The rows of kinds of which i grew from parents[i - 1], i long; some kinds are on the way to others."""
    n = len(parents) + 1
    rows = [[0] * n for kind in range(n)]
    for i in range(1, n):
        for j in range(i):
            rows[i][j] = rows[parents[i - 1]][j] + i
            rows[j][i] = rows[i][j]
    return rows


class Dice:
    """Numbers that look drawn, the same ones each time."""

    def __init__(self, start):
        self.state = start

    def draw(self, least, most):
        self.state = (self.state * 1103515245 + 12345) % 2147483648
        return least + (self.state >> 8) % (most - least + 1)


def drawn_tree(dice, kinds, top=True, start=0):
    """A tree over kinds, drawn by dice: a pair (what it holds, its length in halves).

    What it holds is a kind or a list of trees. The kinds are in rising order, start halves are behind them, and each
    kind is an even number of halves from 0, so that all distances are whole.
    """
    if len(kinds) == 1:
        return kinds[0], dice.draw(1, 4) * 2 - start % 2
    length = dice.draw(0, 3) if top else dice.draw(1, 3)
    fork = start + length
    groups = drawn_groups(dice, kinds)
    trees = [drawn_tree(dice, group, False, fork) for group in groups]
    # One kind may stand on the fork itself, if kind 0 doesn't.
    lone = [at for at, group in enumerate(groups) if len(group) == 1]
    if lone and fork > 0 and fork % 2 == 0 and dice.draw(0, 1):
        at = lone[dice.draw(0, len(lone) - 1)]
        trees[at] = groups[at][0], 0
    return trees, length


def drawn_groups(dice, kinds):
    """Two groups of the kinds or more, the one with the least number first."""
    groups = [[], []]
    while [] in groups:
        groups = [[] for group in range(dice.draw(2, min(4, len(kinds))))]
        for kind in kinds:
            groups[dice.draw(0, len(groups) - 1)].append(kind)
    return sorted(groups)


def held(tree):
    """The kinds that a tree holds."""
    inner = tree[0]
    return [inner] if isinstance(inner, int) else [kind for part in inner for kind in held(part)]


def written(tree):
    """The text of a tree, behind 0=."""
    inner, length = tree
    return f"{inner}:{length}" if isinstance(inner, int) else f"({','.join(map(written, inner))}):{length}"


def parts_within(tree):
    """A tree and all trees within it."""
    inner = tree[0]
    return [tree] + ([] if isinstance(inner, int) else [part for tree in inner for part in parts_within(tree)])


def halves(tree):
    """The rows of a tree's kinds, 0 among them, in halves: what lies in parts that hold one of the two alone."""
    parts = [(held(part), part[1]) for part in parts_within(tree)]
    n = len(held(tree)) + 1

    def way(i, j):
        return sum(length for kinds, length in parts if (i in kinds) != (j in kinds))

    return [[way(i, j) for j in range(n)] for i in range(n)]


def wholes(tree):
    """The rows of a tree's kinds, where all distances are whole."""
    rows = halves(tree)
    if any(number % 2 for row in rows for number in row):
        raise ValueError(written(tree))
    return [[number // 2 for number in row] for row in rows]


def drawn_trees(sizes, each):
    """Trees of as many kinds as sizes tell, 0 among them, each so many times."""
    return [drawn_tree(Dice(1000 * n + at), list(range(1, n))) for n in sizes for at in range(each)]


def changed(rows, places, number):
    """A copy of rows with number at each of the places (row, column)."""
    copy = [list(row) for row in rows]
    for i, j in places:
        copy[i][j] = number
    return copy


# Those of the document's own example, 0=(1:4,(2:2,3:2):2):6.
EXAMPLE = [
    [0, 5, 5, 5],
    [5, 0, 4, 4],
    [5, 4, 0, 2],
    [5, 4, 2, 0],
]


# One that doesn't fit a tree for each cause.
UNFIT = {
    "the first is above 0 from itself": changed(EXAMPLE, [(0, 0)], 1),
    "the last is above 0 from itself": changed(EXAMPLE, [(3, 3)], 1),
    "each is above 0 from itself": changed(EXAMPLE, [(i, i) for i in range(4)], 2),
    "two are at one place": changed(EXAMPLE, [(2, 3), (3, 2)], 0),
    "one is at the place of the first": star([0, 0, 4, 4, 4]),
    "all are at one place": by_pairs(4, lambda i, j: 0),
    "not the same both ways": changed(by_pairs(4, lambda i, j: 4), [(0, 3)], 3),
    "not the same both ways, of two": [[0, 1], [2, 0]],
    "not the same both ways, each way a tree": [[0, 4, 4], [6, 0, 4], [6, 6, 0]],
    "four in a ring": [[0, 1, 2, 1], [1, 0, 1, 2], [2, 1, 0, 1], [1, 2, 1, 0]],
    "four without two greatest": changed(EXAMPLE, [(0, 1), (1, 0)], 8),
    "the last four of many in a ring": by_pairs(8, lambda i, j: 21 if j < 4 else 22 - (j - i) % 2 if i > 3 else 30),
    "a way round that is shorter, of three": [[0, 1, 3], [1, 0, 1], [3, 1, 0]],
    "a way round that is shorter, of many": star([5, 5, 5, 5, 5, -4]),
}
