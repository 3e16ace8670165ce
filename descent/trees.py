"""The calls of descent: each takes plain numbers and lists, and gives back one list of whole numbers."""

LEAST_KINDS = 2
MOST_KINDS = 32
GREATEST_DISTANCE = 1000000
MOST_BYTES = 4096
GREATEST_LENGTH = 2147483647
SIGNS = "0123456789=:,()"
NO_SUCH_TREE = -1
OUT_OF_RANGE = -2


def fits(n, d):
    """[1] if the distances d of n kinds fit a tree, else [0]; [-2] if n or a distance is out of its range."""
    if not in_range(n, d):
        return [OUT_OF_RANGE]
    return [1 if rows_fit(rows_of(n, d)) else 0]


def text(n, d):
    """How many bytes the text of the tree has that d fits, then these; [-1] if d fits none; [-2] as of fits."""
    if not in_range(n, d):
        return [OUT_OF_RANGE]
    rows = rows_of(n, d)
    if not rows_fit(rows):
        return [NO_SUCH_TREE]
    written = "0=" + part_text(rows, list(range(1, n)), 0)
    return [len(written)] + [ord(sign) for sign in written]


def read(data):
    """n of the tree that the bytes tell, then its n rows in halves; [-1] if they tell none; [-2] if too many."""
    if len(data) > MOST_BYTES:
        return [OUT_OF_RANGE]
    try:
        rows = rows_told(signs_of(data))
    except NotATree:
        return [NO_SUCH_TREE]
    answer = [len(rows)]
    for row in rows:
        answer.extend(row)
    return answer


def apart(n, a, b):
    """How many sets one of a and b cuts off and the other doesn't; [-1] if one fits no tree; [-2] as of fits."""
    if not in_range(n, a) or not in_range(n, b):
        return [OUT_OF_RANGE]
    first = rows_of(n, a)
    second = rows_of(n, b)
    if not rows_fit(first) or not rows_fit(second):
        return [NO_SUCH_TREE]
    kinds = list(range(1, n))
    return [len(set(sets_cut_off(first, kinds)) ^ set(sets_cut_off(second, kinds)))]


def clock(n, d):
    """[1] if d fits a tree and of any three kinds the two greatest distances are equal, else [0]; [-2] as of fits."""
    if not in_range(n, d):
        return [OUT_OF_RANGE]
    rows = rows_of(n, d)
    return [1 if rows_fit(rows) and threes_agree(rows) else 0]


def middle(n, i, j, k, d):
    """How many halves the point where the ways between i, j and k meet is from i; [-1] if d fits no tree.

    [-2] as of fits, and if i, j or k is no kind.
    """
    if not in_range(n, d) or min(i, j, k) < 0 or max(i, j, k) >= n:
        return [OUT_OF_RANGE]
    rows = rows_of(n, d)
    if not rows_fit(rows):
        return [NO_SUCH_TREE]
    return [together_from(rows, i, j, k)]


def in_range(n, d):
    """Whether n is a number of kinds that is allowed, and each of d an allowed distance."""
    if n < LEAST_KINDS or n > MOST_KINDS:
        return False
    return min(d) >= 0 and max(d) <= GREATEST_DISTANCE


def rows_of(n, d):
    """The n rows of n numbers that stand in d one behind another, as new lists."""
    return [d[i * n:(i + 1) * n] for i in range(n)]


def rows_fit(rows):
    """Whether distances, given as rows, fit a tree."""
    return own_are_zero(rows) and others_are_apart(rows) and same_both_ways(rows) and fours_agree(rows)


def own_are_zero(rows):
    """Whether the distance of each kind from itself is 0."""
    for i in range(len(rows)):
        if rows[i][i] != 0:
            return False
    return True


def others_are_apart(rows):
    """Whether the distance of each kind from each other one is above 0."""
    for i in range(len(rows)):
        for j in range(len(rows)):
            if i != j and rows[i][j] <= 0:
                return False
    return True


def same_both_ways(rows):
    """Whether i is as far from j as j from i, for each two kinds."""
    for i in range(len(rows)):
        for j in range(i):
            if rows[i][j] != rows[j][i]:
                return False
    return True


def fours_agree(rows):
    """Whether any four kinds, some of which may be one, agree; the distances are the same both ways."""
    # Another order of the same four gives the same three sums, so one order of each four is enough.
    for i in range(len(rows)):
        for j in range(i + 1):
            for k in range(j + 1):
                for l in range(k + 1):
                    if not four_agree(rows, i, j, k, l):
                        return False
    return True


def four_agree(rows, i, j, k, l):
    """Whether the two greatest of the three sums of the kinds i, j, k, l are equal."""
    sums = sorted([rows[i][j] + rows[k][l], rows[i][k] + rows[j][l], rows[i][l] + rows[j][k]])
    return sums[1] == sums[2]


def threes_agree(rows):
    """Whether of any three kinds the two greatest of their three distances are equal; the rows fit a tree."""
    for i in range(len(rows)):
        for j in range(i):
            for k in range(j):
                far = sorted([rows[i][j], rows[i][k], rows[j][k]])
                if far[1] != far[2]:
                    return False
    return True


def part_text(rows, kinds, start):
    """The text of kinds, given in rising order, from start on; the rows fit a tree."""
    # A group is smaller than what it is a group of, so the calls within one another are fewer than the kinds.
    if len(kinds) == 1:
        kind = kinds[0]
        length = 2 * rows[0][kind] - start
        return f"{kind}:{length}"
    fork = least_together(rows, kinds)
    parts = ",".join([part_text(rows, group, fork) for group in groups_behind(rows, kinds, fork)])
    length = fork - start
    return f"({parts}):{length}"


def together(rows, i, j):
    """For how many halves the kinds i and j go together, seen from kind 0."""
    return together_from(rows, 0, i, j)


def together_from(rows, origin, i, j):
    """For how many halves the kinds i and j go together, seen from kind origin."""
    return rows[origin][i] + rows[origin][j] - rows[i][j]


def least_together(rows, kinds):
    """The least number of halves for which two of several kinds go together."""
    # The rows fit a tree: where the kinds first part, the first of them parts from another one too.
    return min([together(rows, kinds[0], kind) for kind in kinds[1:]])


def groups_behind(rows, kinds, fork):
    """The groups of kinds that go together beyond fork, each in the order of kinds, as are their first ones."""
    groups = []
    for kind in kinds:
        group = group_of(rows, groups, kind, fork)
        if group is None:
            groups.append([kind])
        else:
            group.append(kind)
    return groups


def group_of(rows, groups, kind, fork):
    """The one of the groups that kind goes together with beyond fork, or None."""
    # The rows fit a tree: who goes together with one of a group beyond fork does so with all of it.
    for group in groups:
        if together(rows, group[0], kind) > fork:
            return group
    return None


def sets_cut_off(rows, kinds):
    """The sets that are cut off within kinds, as tuples in rising order; kinds, in that order, are all or a group."""
    # A set is cut off by a way, longer than 0, that all of it goes together and no other kind goes: that of a group.
    # Kinds part into two groups at least, so none of them has more than n - 2 kinds.
    found = []
    if len(kinds) > 1:
        for group in groups_behind(rows, kinds, least_together(rows, kinds)):
            if len(group) > 1:
                found.append(tuple(group))
                found.extend(sets_cut_off(rows, group))
    return found


def signs_of(data):
    """The text of the bytes, with a blank for each byte that stands in no tree's text."""
    known = {}
    for sign in SIGNS:
        known[ord(sign)] = sign
    return "".join([known.get(byte, " ") for byte in data])


def rows_told(signs):
    """The rows, in halves, of the tree whose text the signs are; NotATree is raised if they are none."""
    reader = TextReader(signs)
    reader.take_text()
    n = len(reader.kinds) + 1
    if sorted(reader.kinds) != list(range(1, n)):
        raise NotATree()
    rows = [[0] * n for kind in range(n)]
    for first, behind, length in reader.parts:
        add_part(rows, reader.kinds[first:behind], length)
    return rows


def add_part(rows, held, length):
    """Adds the length of a part to each way between a kind that it holds and one that it doesn't."""
    for i in held:
        for j in range(len(rows)):
            if j not in held:
                rows[i][j] += length
                rows[j][i] += length


class NotATree(ValueError):
    """Raised where a text isn't a tree's text."""


class TextReader:
    """Goes through a text from front to back, and takes down the kinds and the parts in it.

    A part is (first, behind, length): it holds kinds[first:behind].
    """

    def __init__(self, signs):
        self.signs = signs
        self.at = 0
        self.kinds = []
        self.parts = []
        # For each bracket that is still open, how many kinds stand ahead of it.
        self.opened = []

    def take_text(self):
        """Takes the whole text."""
        self.take("0=")
        self.take_kind()
        self.take_closings()
        while self.opened:
            self.take(",")
            self.take_kind()
            self.take_closings()
        if self.at < len(self.signs):
            raise NotATree()

    def take_kind(self):
        """Takes a part that is one kind, and the brackets that open ahead of it."""
        while self.sees("("):
            self.take("(")
            self.opened.append(len(self.kinds))
        self.kinds.append(self.take_number(1, MOST_KINDS - 1))
        self.take_length(len(self.kinds) - 1)

    def take_closings(self):
        """Takes the brackets that close here."""
        while self.opened and self.sees(")"):
            self.take(")")
            first = self.opened.pop()
            # The last part within a bracket is the only one there if it begins where the bracket does.
            if self.parts[-1][0] == first:
                raise NotATree()
            self.take_length(first)

    def take_length(self, first):
        """Takes the length of the part that holds the kinds from first on, and with it the part."""
        self.take(":")
        length = self.take_number(0, GREATEST_LENGTH)
        self.parts.append((first, len(self.kinds), length))

    def sees(self, sign):
        """Whether sign stands here."""
        return self.signs.startswith(sign, self.at)

    def take(self, sign):
        """Takes sign, which must stand here."""
        if not self.sees(sign):
            raise NotATree()
        self.at += len(sign)

    def take_number(self, least, most):
        """Takes a number without a zero in front, which must stand here and be from least to most."""
        start = self.at
        while self.at < len(self.signs) and self.signs[self.at].isdigit():
            self.at += 1
        digits = self.signs[start:self.at]
        # More digits than the greatest number has are too many, and may be more than int takes.
        if digits == "" or len(digits) > len(str(most)):
            raise NotATree()
        number = int(digits)
        if str(number) != digits or number < least or number > most:
            raise NotATree()
        return number
