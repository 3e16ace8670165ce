"""Promise 5: clock; and the refusals ahead of it, as far as they speak of clock."""

import itertools
import unittest

from descent.trees import clock, fits
from distances import EXAMPLE, by_pairs, changed, comb, flat, grown, star
from manners import Manners, Ranges


def clock_by_definition(rows):
    """The document's words over any three kinds, of rows that are known to fit or not."""
    if fits(len(rows), flat(rows)) != [1]:
        return 0
    for i, j, k in itertools.permutations(range(len(rows)), 3):
        far = [rows[i][j], rows[i][k], rows[j][k]]
        if far.count(max(far)) < 2:
            return 0
    return 1


def halved(n):
    """The rows of kinds that parted in two again and again, all equally far from where all began."""
    return by_pairs(n, lambda i, j: 2 * (i ^ j).bit_length())


def nearer(rows, kind):
    """The rows with one kind nearer to all others by 1."""
    places = [place for other in range(len(rows)) if other != kind for place in ((kind, other), (other, kind))]
    copy = [list(row) for row in rows]
    for i, j in places:
        copy[i][j] -= 1
    return copy


class ClockCase(unittest.TestCase):
    def answers(self, number, rows):
        self.assertEqual(clock(len(rows), flat(rows)), [number], rows)


class Alike(ClockCase):
    def test_the_documents_example(self):
        self.assertEqual(clock(4, [0, 5, 5, 5, 5, 0, 4, 4, 5, 4, 0, 2, 5, 4, 2, 0]), [1])

    def test_two_kinds(self):
        for distance in (1, 2, 7, 1000000):
            self.answers(1, [[0, distance], [distance, 0]])

    def test_three_kinds(self):
        for i, j in itertools.combinations(range(3), 2):
            self.answers(1, by_pairs(3, lambda a, b: 3 if (a, b) == (i, j) else 5))
        self.answers(1, by_pairs(3, lambda a, b: 5))
        self.answers(1, by_pairs(3, lambda a, b: 1))

    def test_thirty_two_kinds(self):
        self.answers(1, halved(32))
        self.answers(1, by_pairs(32, lambda i, j: 1))
        self.answers(1, by_pairs(32, lambda i, j: 1000000))
        self.answers(1, by_pairs(32, lambda i, j: 40 - i))
        self.answers(1, by_pairs(32, lambda i, j: j))

    def test_each_number_of_kinds(self):
        for n in range(2, 33):
            self.answers(1, halved(n))
            self.answers(1, star([4] * n))

    def test_one_kind_longer_than_the_rest_on_a_star(self):
        # The two greatest are those of the longer one.
        for longer in range(5):
            self.answers(1, star([9 if i == longer else 2 for i in range(5)]))


class Unlike(ClockCase):
    def test_three_kinds(self):
        for far in itertools.permutations((3, 4, 5)):
            told = dict(zip(((0, 1), (0, 2), (1, 2)), far))
            self.answers(0, by_pairs(3, lambda i, j: told[i, j]))

    def test_the_two_least_are_equal(self):
        for i, j in itertools.combinations(range(3), 2):
            self.answers(0, by_pairs(3, lambda a, b: 4 if (a, b) == (i, j) else 3))

    def test_one_on_the_way_between_the_others(self):
        self.answers(0, [[0, 1, 3], [1, 0, 2], [3, 2, 0]])
        self.answers(0, [[0, 1, 2], [1, 0, 1], [2, 1, 0]])

    def test_the_greatest_distances(self):
        self.answers(0, [[0, 1000000, 999999], [1000000, 0, 999998], [999999, 999998, 0]])
        self.answers(0, [[0, 1000000, 500000], [1000000, 0, 500000], [500000, 500000, 0]])

    def test_trees_of_many_kinds(self):
        for n in range(3, 33):
            self.answers(0, comb(n))
            self.answers(0, grown([0] + [1] * (n - 2)))

    def test_each_kind_of_the_example_nearer(self):
        for kind in range(4):
            self.assertEqual(fits(4, flat(nearer(EXAMPLE, kind))), [1])
        # Kind 0 is farthest from all others, and still is.
        self.answers(1, nearer(EXAMPLE, 0))
        for kind in range(1, 4):
            self.answers(0, nearer(EXAMPLE, kind))

    def test_the_last_three(self):
        # Kinds 0 to n - 3 are equally far from all; of the last two one is nearer to them than the other.
        # Where d fits, three that don't agree are never alone: a fourth kind and two of them don't agree either.
        for n in (4, 8, 32):
            rows = by_pairs(n, lambda i, j: 9 if j < n - 1 or i < n - 2 else 5)
            self.answers(1, rows)
            for last in (n - 2, n - 1):
                self.assertEqual(fits(n, flat(nearer(rows, last))), [1])
                self.answers(0, nearer(rows, last))
                kinds = list(range(n - 3, n))
                self.answers(0, [[nearer(rows, last)[i][j] for j in kinds] for i in kinds])

    def test_the_first_three(self):
        for n in (4, 8, 32):
            rows = nearer(by_pairs(n, lambda i, j: 5 if j == 1 else 9), 0)
            self.assertEqual(fits(n, flat(rows)), [1])
            self.answers(0, rows)


class Unfit(ClockCase):
    def test_one_above_0_from_itself(self):
        for rows in ([[0, 5], [5, 0]], star([1, 1, 1]), EXAMPLE, halved(32)):
            for kind in range(len(rows)):
                for distance in (1, 5, 1000000):
                    self.answers(0, changed(rows, [(kind, kind)], distance))

    def test_all_above_0_from_themselves(self):
        for n in (2, 3, 4, 32):
            self.answers(0, [[5] * n] * n)

    def test_one_0_from_another(self):
        self.answers(0, [[0, 0], [0, 0]])
        for n in (3, 4, 8):
            for i, j in itertools.combinations(range(n), 2):
                self.answers(0, by_pairs(n, lambda a, b: 0 if (a, b) == (i, j) else 4))
        self.answers(0, by_pairs(32, lambda i, j: 0 if i == 30 else 4))
        self.answers(0, by_pairs(32, lambda i, j: 0))

    def test_not_the_same_both_ways(self):
        self.answers(0, [[0, 1], [2, 0]])
        self.answers(0, [[0, 2], [1, 0]])
        for n in (3, 4, 32):
            # Each way by itself would do.
            self.answers(0, [[0 if i == j else 4 if i < j else 6 for j in range(n)] for i in range(n)])
            self.answers(0, changed(by_pairs(n, lambda i, j: 4), [(0, n - 1)], 3))
            self.answers(0, changed(by_pairs(n, lambda i, j: 4), [(n - 1, 0)], 3))

    def test_four_kinds_that_do_not_agree(self):
        self.answers(0, [[0, 1, 2, 1], [1, 0, 1, 2], [2, 1, 0, 1], [1, 2, 1, 0]])

    def test_a_way_round_that_is_shorter(self):
        self.answers(0, [[0, 1, 3], [1, 0, 1], [3, 1, 0]])


class ByDefinition(ClockCase):
    def test_all_rows_of_two_kinds(self):
        for d in itertools.product(range(4), repeat=4):
            rows = [d[:2], d[2:]]
            self.answers(clock_by_definition(rows), rows)

    def test_all_rows_of_three_kinds(self):
        for d in itertools.product(range(3), repeat=9):
            rows = [d[:3], d[3:6], d[6:]]
            self.answers(clock_by_definition(rows), rows)

    def test_four_kinds_the_same_both_ways(self):
        pairs = list(itertools.combinations(range(4), 2))
        seen = []
        for numbers in itertools.product(range(1, 5), repeat=6):
            told = dict(zip(pairs, numbers))
            rows = by_pairs(4, lambda i, j: told[i, j])
            seen.append((fits(4, flat(rows)), clock_by_definition(rows)))
            self.answers(seen[-1][1], rows)
        for each in (([0], 0), ([1], 0), ([1], 1)):
            self.assertGreater(seen.count(each), 50)

    def test_each_kind_and_each_two_of_five(self):
        for kinds in itertools.combinations(range(5), 2):
            rows = nearer(nearer(halved(5), kinds[0]), kinds[1])
            self.answers(clock_by_definition(rows), rows)
            self.answers(clock_by_definition(nearer(halved(5), kinds[0])), nearer(halved(5), kinds[0]))


class Refusals(Ranges, unittest.TestCase):
    unfit = [0]

    def asked(self, n, d):
        return clock(n, d)


class Interface(Manners, unittest.TestCase):
    call = (clock,)
    calls = (
        ({"n": 4, "d": flat(EXAMPLE)}, [1]),
        ({"n": 2, "d": [0, 1, 1, 0]}, [1]),
        ({"n": 32, "d": flat(halved(32))}, [1]),
        ({"n": 32, "d": flat(comb(32))}, [0]),
        ({"n": 3, "d": [0, 1, 3, 1, 0, 2, 3, 2, 0]}, [0]),
        ({"n": 2, "d": [0, 1, 2, 0]}, [0]),
        ({"n": 2, "d": [0, 1000001, 1, 0]}, [-2]),
        ({"n": 33, "d": []}, [-2]),
    )


if __name__ == "__main__":
    unittest.main()
