"""Promise 1: fits; and the refusals ahead of it, as far as they speak of fits."""

import itertools
import unittest

from descent.trees import fits
from distances import EXAMPLE, by_pairs, changed, comb, flat, grown, star
from manners import Manners, Ranges


def fits_by_definition(rows):
    """The document's words, taken one by one, over any four kinds in any order."""
    kinds = range(len(rows))
    for i, j in itertools.product(kinds, repeat=2):
        if (rows[i][j] == 0) != (i == j) or rows[i][j] != rows[j][i]:
            return False
    for i, j, k, l in itertools.product(kinds, repeat=4):
        sums = [rows[i][j] + rows[k][l], rows[i][k] + rows[j][l], rows[i][l] + rows[j][k]]
        if sums.count(max(sums)) < 2:
            return False
    return True


class FitsCase(unittest.TestCase):
    def answers(self, answer, rows):
        self.assertEqual(fits(len(rows), flat(rows)), answer, rows)


class Fitting(FitsCase):
    def test_the_documents_example(self):
        self.assertEqual(fits(4, [0, 5, 5, 5, 5, 0, 4, 4, 5, 4, 0, 2, 5, 4, 2, 0]), [1])

    def test_two_kinds(self):
        for distance in (1, 2, 7, 999999, 1000000):
            self.answers([1], [[0, distance], [distance, 0]])

    def test_three_kinds(self):
        self.answers([1], [[0, 3, 4], [3, 0, 5], [4, 5, 0]])

    def test_three_kinds_one_on_the_way_between_the_others(self):
        self.answers([1], [[0, 1, 3], [1, 0, 2], [3, 2, 0]])
        self.answers([1], [[0, 2, 1], [2, 0, 1], [1, 1, 0]])

    def test_lengths_that_are_halves(self):
        self.answers([1], by_pairs(3, lambda i, j: 1))
        self.answers([1], by_pairs(4, lambda i, j: 1))

    def test_all_hang_on_one_point(self):
        self.answers([1], star([1, 2, 3, 4, 5]))

    def test_one_stands_where_all_others_hang(self):
        for middle in range(5):
            self.answers([1], star([0 if i == middle else i + 1 for i in range(5)]))

    def test_a_comb_of_each_size(self):
        for n in range(2, 33):
            self.answers([1], comb(n))

    def test_a_comb_in_another_order(self):
        rows = comb(9)
        order = [4, 0, 7, 2, 8, 1, 6, 3, 5]
        self.answers([1], [[rows[i][j] for j in order] for i in order])

    def test_kinds_on_the_way_to_others(self):
        self.answers([1], grown([0, 1, 2, 3, 4]))
        self.answers([1], grown([0, 0, 1, 1, 2, 2, 3]))
        self.answers([1], grown([(i - 1) // 2 for i in range(1, 32)]))

    def test_thirty_two_kinds(self):
        self.answers([1], star(list(range(1, 33))))
        self.answers([1], by_pairs(32, lambda i, j: 1))

    def test_the_greatest_distance_is_no_refusal(self):
        self.answers([1], by_pairs(3, lambda i, j: 1000000))
        self.answers([1], by_pairs(32, lambda i, j: 1000000))
        self.answers([1], [[0, 1000000, 1], [1000000, 0, 999999], [1, 999999, 0]])


class OneFromItself(FitsCase):
    def test_two_kinds(self):
        self.answers([0], [[1, 5], [5, 0]])
        self.answers([0], [[0, 5], [5, 1]])
        self.answers([0], [[1, 5], [5, 1]])

    def test_each_kind_of_the_example(self):
        for i in range(4):
            self.answers([0], changed(EXAMPLE, [(i, i)], 1))

    def test_each_of_thirty_two(self):
        for i in range(32):
            self.answers([0], changed(comb(32), [(i, i)], 1))

    def test_the_greatest_distance(self):
        self.answers([0], [[1000000, 1000000], [1000000, 0]])


class OneFromAnother(FitsCase):
    def test_two_kinds(self):
        self.answers([0], [[0, 0], [0, 0]])

    def test_two_kinds_at_one_place(self):
        self.answers([0], [[0, 0, 5], [0, 0, 5], [5, 5, 0]])
        self.answers([0], [[0, 5, 0], [5, 0, 5], [0, 5, 0]])
        self.answers([0], [[0, 5, 5], [5, 0, 0], [5, 0, 0]])

    def test_each_two_of_five_at_one_place(self):
        for i, j in itertools.combinations(range(5), 2):
            self.answers([0], star([0 if kind in (i, j) else 3 for kind in range(5)]))

    def test_the_last_two_of_thirty_two_at_one_place(self):
        self.answers([0], star([1] * 30 + [0, 0]))

    def test_all_at_one_place(self):
        self.answers([0], by_pairs(4, lambda i, j: 0))
        self.answers([0], by_pairs(32, lambda i, j: 0))


class BothWays(FitsCase):
    def test_two_kinds(self):
        self.answers([0], [[0, 1], [2, 0]])
        self.answers([0], [[0, 2], [1, 0]])
        self.answers([0], [[0, 0], [1, 0]])
        self.answers([0], [[0, 1], [0, 0]])

    def test_each_way_by_itself_would_fit(self):
        for n in (3, 4, 32):
            self.answers([0], [[0 if i == j else 4 if i < j else 6 for j in range(n)] for i in range(n)])

    def test_one_pair_where_either_number_would_fit(self):
        for i, j in itertools.permutations(range(5), 2):
            self.answers([1], changed(by_pairs(5, lambda a, b: 4), [(i, j), (j, i)], 3))
            self.answers([0], changed(by_pairs(5, lambda a, b: 4), [(i, j)], 3))

    def test_the_last_two_of_thirty_two(self):
        self.answers([0], changed(by_pairs(32, lambda a, b: 4), [(30, 31)], 3))
        self.answers([0], changed(by_pairs(32, lambda a, b: 4), [(31, 30)], 3))


class FourKinds(FitsCase):
    def test_a_ring_of_four(self):
        self.answers([0], [[0, 1, 2, 1], [1, 0, 1, 2], [2, 1, 0, 1], [1, 2, 1, 0]])

    def test_each_of_the_three_sums_as_the_only_greatest(self):
        for i, j in itertools.combinations(range(4), 2):
            self.answers([0], by_pairs(4, lambda a, b: 5 if (a, b) == (i, j) else 4))

    def test_three_unlike_sums(self):
        for first, second, third in itertools.permutations((10, 11, 12)):
            sums = {(0, 1): first, (0, 2): second, (0, 3): third}
            self.answers([0], by_pairs(4, lambda a, b: sums.get((a, b), 10)))

    def test_the_two_least_are_equal(self):
        self.answers([0], changed(EXAMPLE, [(0, 1), (1, 0)], 8))

    def test_the_two_greatest_are_equal_and_the_third_is_less(self):
        for i, j in itertools.combinations(range(4), 2):
            self.answers([1], by_pairs(4, lambda a, b: 3 if (a, b) == (i, j) else 4))

    def test_one_pair_too_far_among_many(self):
        for i, j in itertools.combinations(range(8), 2):
            self.answers([0], by_pairs(8, lambda a, b: 5 if (a, b) == (i, j) else 4))

    def test_one_pair_too_far_among_thirty_two(self):
        for i, j in ((0, 1), (0, 31), (15, 16), (30, 31)):
            self.answers([0], by_pairs(32, lambda a, b: 5 if (a, b) == (i, j) else 4))

    def test_a_ring_within_a_tree(self):
        ring = [[0, 11, 12, 11], [11, 0, 11, 12], [12, 11, 0, 11], [11, 12, 11, 0]]
        for n in (5, 32):
            rows = by_pairs(n, lambda i, j: ring[i][j] if j < 4 else 10 + 20 * j)
            self.answers([0], rows)
            self.answers([0], [row[::-1] for row in rows[::-1]])


class SomeOfTheFourAreOne(FitsCase):
    def test_three_kinds(self):
        self.answers([0], [[0, 1, 3], [1, 0, 1], [3, 1, 0]])
        self.answers([0], [[0, 3, 1], [3, 0, 1], [1, 1, 0]])
        self.answers([0], [[0, 1, 1], [1, 0, 3], [1, 3, 0]])

    def test_a_way_round_that_is_as_long_is_no_fault(self):
        self.answers([1], [[0, 1, 2], [1, 0, 1], [2, 1, 0]])

    def test_the_greatest_distance(self):
        self.answers([1], [[0, 1000000, 500000], [1000000, 0, 500000], [500000, 500000, 0]])
        self.answers([0], [[0, 1000000, 500000], [1000000, 0, 499999], [500000, 499999, 0]])

    def test_unlike_fours_all_agree(self):
        # All hang on one point, one of them by less than nothing: only a way round tells.
        for n in (4, 5, 32):
            for short in (0, 1, n - 1):
                self.answers([0], star([-4 if i == short else 5 for i in range(n)]))


class ByDefinition(FitsCase):
    def test_all_rows_of_two_kinds(self):
        for d in itertools.product(range(4), repeat=4):
            self.answers([int(fits_by_definition([d[:2], d[2:]]))], [d[:2], d[2:]])

    def test_all_rows_of_three_kinds(self):
        for d in itertools.product(range(3), repeat=9):
            rows = [d[:3], d[3:6], d[6:]]
            self.answers([int(fits_by_definition(rows))], rows)

    def test_four_kinds_the_same_both_ways(self):
        pairs = list(itertools.combinations(range(4), 2))
        seen = []
        for numbers in itertools.product(range(1, 5), repeat=6):
            told = dict(zip(pairs, numbers))
            rows = by_pairs(4, lambda i, j: told[i, j])
            seen.append(fits_by_definition(rows))
            self.answers([int(seen[-1])], rows)
        self.assertIn(True, seen)
        self.assertIn(False, seen)


class Refusals(Ranges, unittest.TestCase):
    unfit = [0]

    def asked(self, n, d):
        return fits(n, d)


class Interface(Manners, unittest.TestCase):
    call = (fits,)
    calls = (
        ({"n": 4, "d": flat(EXAMPLE)}, [1]),
        ({"n": 32, "d": flat(comb(32))}, [1]),
        ({"n": 3, "d": [0, 1, 3, 1, 0, 1, 3, 1, 0]}, [0]),
        ({"n": 2, "d": [0, 1, 2, 0]}, [0]),
        ({"n": 2, "d": [0, 1000001, 1, 0]}, [-2]),
        ({"n": 33, "d": []}, [-2]),
    )

    def test_a_list_that_changed_between_two_calls(self):
        d = [0, 1, 1, 0]
        self.assertEqual(fits(2, d), [1])
        d[1] = 2
        self.assertEqual(fits(2, d), [0])
        d[1] = 1
        self.assertEqual(fits(2, d), [1])


if __name__ == "__main__":
    unittest.main()
