"""Distances for the tests, made by other means than the program's."""


def flat(rows):
    """The rows one behind another, as the calls take them."""
    return [number for row in rows for number in row]


def by_pairs(n, pair):
    """The rows of n kinds, where pair(i, j) tells how far i < j are apart."""
    return [[0 if i == j else pair(min(i, j), max(i, j)) for j in range(n)] for i in range(n)]


def star(ends):
    """The rows of kinds that hang on one point, kind i by a way as long as ends[i]."""
    return by_pairs(len(ends), lambda i, j: ends[i] + ends[j])


def comb(n):
    """The rows of kinds that hang one by one along a line, at 3, 6, 9 .., by ways of unlike lengths."""
    ends = [1 + i * 5 % 7 for i in range(n)]
    return by_pairs(n, lambda i, j: ends[i] + 3 * (j - i) + ends[j])


def grown(parents):
    """The rows of kinds of which i grew from parents[i - 1], i long; some kinds are on the way to others."""
    n = len(parents) + 1
    rows = [[0] * n for kind in range(n)]
    for i in range(1, n):
        for j in range(i):
            rows[i][j] = rows[parents[i - 1]][j] + i
            rows[j][i] = rows[i][j]
    return rows


def changed(rows, places, number):
    """A copy of rows with number at each of the places (row, column)."""
    copy = [list(row) for row in rows]
    for i, j in places:
        copy[i][j] = number
    return copy


# Those of the document's own example, 0=(1:4,(2:2,3:2):2):6.
EXAMPLE = [
    [0, 5, 5, 5],
    [5, 0, 4, 4],
    [5, 4, 0, 2],
    [5, 4, 2, 0],
]
