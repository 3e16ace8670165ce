"""Promise 6: middle; and the refusals ahead of it, as far as they speak of middle."""

import itertools
import unittest

from descent.trees import middle
from distances import EXAMPLE, UNFIT, by_pairs, changed, comb, flat, grown, star
from distances import drawn_trees, held, parts_within, wholes
from manners import Manners, Ranges


def no_kinds(n):
    """Numbers that none of n kinds has."""
    return (-1, n, -n, n + 1, 32, 1023, -2147483648, 2147483647)


def halves_to_the_middle(tree, i, j, k):
    """What lies between i and both others: in parts that hold i alone of the three, or all but i."""
    parts = [(held(part), part[1]) for part in parts_within(tree)]
    return sum(length for kinds, length in parts if (i in kinds) != (j in kinds) and (i in kinds) != (k in kinds))


class MiddleCase(unittest.TestCase):
    def answers(self, number, i, j, k, rows):
        self.assertEqual(middle(len(rows), i, j, k, flat(rows)), [number], (i, j, k, rows))

    def meet(self, ends, kinds, rows):
        """Each of the three is as far as ends tell from the point, whichever of the others comes first."""
        for at, i in enumerate(kinds):
            j, k = kinds[:at] + kinds[at + 1:]
            self.answers(ends[at], i, j, k, rows)
            self.answers(ends[at], i, k, j, rows)


class ThreeKinds(MiddleCase):
    def test_the_documents_example(self):
        d = [0, 5, 5, 5, 5, 0, 4, 4, 5, 4, 0, 2, 5, 4, 2, 0]
        self.assertEqual(middle(4, 0, 1, 2, d), [6])
        self.assertEqual(middle(4, 1, 0, 2, d), [4])
        self.assertEqual(middle(4, 2, 0, 1, d), [4])
        self.assertEqual(middle(4, 2, 3, 1, d), [2])

    def test_each_three_of_the_example(self):
        self.meet((6, 4, 4), (0, 1, 2), EXAMPLE)
        self.meet((6, 4, 4), (0, 1, 3), EXAMPLE)
        self.meet((8, 2, 2), (0, 2, 3), EXAMPLE)
        self.meet((6, 2, 2), (1, 2, 3), EXAMPLE)

    def test_unlike_ends(self):
        self.meet((2, 4, 6), (0, 1, 2), [[0, 3, 4], [3, 0, 5], [4, 5, 0]])
        self.meet((14, 2, 200), (0, 1, 2), star([7, 1, 100]))

    def test_odd_answers(self):
        self.meet((1, 1, 1), (0, 1, 2), by_pairs(3, lambda i, j: 1))
        self.meet((3, 3, 1), (0, 1, 2), [[0, 3, 2], [3, 0, 2], [2, 2, 0]])
        self.meet((5, 3, 3), (0, 1, 2), [[0, 4, 4, 4], [4, 0, 3, 3], [4, 3, 0, 2], [4, 3, 2, 0]])
        self.meet((1000000 - 1, 1, 1000000 - 1), (0, 1, 2), star_of_halves(999999, 1, 999999))

    def test_one_on_the_way_between_the_others(self):
        self.meet((2, 0, 4), (0, 1, 2), [[0, 1, 3], [1, 0, 2], [3, 2, 0]])
        self.meet((0, 2, 4), (0, 1, 2), [[0, 1, 2], [1, 0, 3], [2, 3, 0]])
        self.meet((2, 4, 0), (0, 1, 2), [[0, 3, 1], [3, 0, 2], [1, 2, 0]])

    def test_the_greatest_distances(self):
        self.meet((1000000,) * 3, (0, 1, 2), by_pairs(3, lambda i, j: 1000000))
        self.meet((2, 0, 1999998), (0, 1, 2), [[0, 1, 1000000], [1, 0, 999999], [1000000, 999999, 0]])
        self.meet((1999999, 1, 1), (0, 1, 2), [[0, 1000000, 1000000], [1000000, 0, 1], [1000000, 1, 0]])

    def test_the_last_three_of_thirty_two(self):
        ends = [2 * (1 + i * 5 % 7) for i in range(32)]
        self.meet((ends[29] + 6, ends[30], ends[31] + 6), (29, 30, 31), comb(32))
        self.meet((ends[0] + 6 * 16, ends[16], ends[31] + 6 * 15), (0, 16, 31), comb(32))


def star_of_halves(first, second, third):
    """The rows of three kinds that hang on one point by ways of so many halves."""
    ends = (first, second, third)
    return by_pairs(3, lambda i, j: (ends[i] + ends[j]) // 2)


class SomeOfThemAreOne(MiddleCase):
    trees = (comb(2), [[0, 1000000], [1000000, 0]], star([1, 2, 3]), EXAMPLE, grown([0, 0, 1, 1, 2]))

    def test_all_three(self):
        for rows in self.trees:
            for i in range(len(rows)):
                self.answers(0, i, i, i, rows)

    def test_the_first_and_another(self):
        for rows in self.trees:
            for i, k in itertools.permutations(range(len(rows)), 2):
                self.answers(0, i, i, k, rows)
                self.answers(0, i, k, i, rows)

    def test_the_other_two(self):
        for rows in self.trees:
            for i, j in itertools.permutations(range(len(rows)), 2):
                self.answers(2 * rows[i][j], i, j, j, rows)

    def test_the_ends_of_thirty_two(self):
        rows = comb(32)
        self.answers(0, 31, 31, 31, rows)
        self.answers(0, 31, 31, 0, rows)
        self.answers(0, 31, 0, 31, rows)
        self.answers(2 * rows[0][31], 31, 0, 0, rows)
        self.answers(2 * rows[0][31], 0, 31, 31, rows)

    def test_two_kinds(self):
        told = {(0, 0, 0): 0, (0, 0, 1): 0, (0, 1, 0): 0, (0, 1, 1): 14,
                (1, 0, 0): 14, (1, 0, 1): 0, (1, 1, 0): 0, (1, 1, 1): 0}
        for (i, j, k), number in told.items():
            self.answers(number, i, j, k, [[0, 7], [7, 0]])


class ManyTrees(MiddleCase):
    def test_each_three_of_small_trees(self):
        seen = {}
        for tree in drawn_trees(range(2, 8), 6):
            rows = wholes(tree)
            for i, j, k in itertools.product(range(len(rows)), repeat=3):
                seen[halves_to_the_middle(tree, i, j, k)] = True
                self.answers(halves_to_the_middle(tree, i, j, k), i, j, k, rows)
        self.assertGreater(len([number for number in seen if number % 2]), 3)
        self.assertGreater(len([number for number in seen if number % 2 == 0]), 3)

    def test_some_threes_of_great_trees(self):
        for tree in drawn_trees((16, 31, 32), 2):
            rows = wholes(tree)
            last = len(rows) - 1
            for i, j, k in ((0, 1, 2), (last, 0, 1), (1, last, 5), (7, 3, last), (last, last - 1, last - 2)):
                self.answers(halves_to_the_middle(tree, i, j, k), i, j, k, rows)


class NoSuchKind(MiddleCase):
    def refuses(self, rows, kinds):
        self.assertEqual(middle(len(rows), *kinds, flat(rows)), [-2], (kinds, rows))

    def test_each_by_itself(self):
        for rows in (comb(2), comb(3), EXAMPLE, comb(31)):
            for at in range(3):
                for number in no_kinds(len(rows)):
                    for others in (0, len(rows) - 1):
                        kinds = [others] * 3
                        kinds[at] = number
                        self.refuses(rows, kinds)

    def test_each_by_itself_of_thirty_two(self):
        for at, number in itertools.product(range(3), no_kinds(32)):
            kinds = [5, 6, 7]
            kinds[at] = number
            self.refuses(comb(32), kinds)

    def test_two_and_three(self):
        for number in no_kinds(4):
            for kinds in ((number, number, 0), (number, 0, number), (0, number, number), (number,) * 3):
                self.refuses(EXAMPLE, kinds)
        self.refuses(EXAMPLE, (-1, 0, 4))
        self.refuses(EXAMPLE, (4, -1, 0))

    def test_the_ends_of_the_kinds_are_no_refusal(self):
        for kinds in itertools.product((0, 3), repeat=3):
            self.assertNotEqual(middle(4, *kinds, flat(EXAMPLE))[0], -2)

    def test_where_it_does_not_fit(self):
        for rows in UNFIT.values():
            for at in range(3):
                for number in no_kinds(len(rows)):
                    kinds = [0, 1, 1]
                    kinds[at] = number
                    self.refuses(rows, kinds)

    def test_where_a_distance_is_out_of_its_range(self):
        for at, number in itertools.product(range(3), no_kinds(4)):
            kinds = [0, 1, 2]
            kinds[at] = number
            self.refuses(changed(EXAMPLE, [(3, 2)], 1000001), kinds)

    def test_where_n_is_out_of_its_range(self):
        for n in (1, 33, 0, -1, -2147483648, 2147483647):
            for number in (0, -1, 1, 32, n, -2147483648, 2147483647):
                self.assertEqual(middle(n, number, number, number, []), [-2])
                self.assertEqual(middle(n, 0, 0, number, []), [-2])


class Unfit(MiddleCase):
    def test_whichever_kinds_are_asked_for(self):
        for cause, rows in UNFIT.items():
            for kinds in itertools.product(sorted({0, 1, len(rows) - 1}), repeat=3):
                self.assertEqual(middle(len(rows), *kinds, flat(rows)), [-1], cause)

    def test_what_is_asked_for_is_not_where_it_does_not_fit(self):
        # The last four are in a ring; the first three would do by themselves.
        rows = UNFIT["the last four of many in a ring"]
        self.answers(-1, 0, 1, 2, rows)
        self.meet((21, 21, 21), (0, 1, 2), [row[:3] for row in rows[:3]])


class RefusalsOfTheFirst(Ranges, unittest.TestCase):
    unfit = [-1]

    def asked(self, n, d):
        return middle(n, 0, 0, 0, d)


class RefusalsOfTheLast(Ranges, unittest.TestCase):
    unfit = [-1]

    def asked(self, n, d):
        return middle(n, n - 1, 0, n // 2, d)


class Interface(Manners, unittest.TestCase):
    call = (middle,)
    calls = (
        ({"n": 4, "i": 0, "j": 1, "k": 2, "d": flat(EXAMPLE)}, [6]),
        ({"n": 4, "i": 2, "j": 3, "k": 1, "d": flat(EXAMPLE)}, [2]),
        ({"n": 2, "i": 0, "j": 1, "k": 1, "d": [0, 1, 1, 0]}, [2]),
        ({"n": 3, "i": 0, "j": 1, "k": 2, "d": [0, 1, 1, 1, 0, 1, 1, 1, 0]}, [1]),
        ({"n": 32, "i": 31, "j": 31, "k": 0, "d": flat(comb(32))}, [0]),
        ({"n": 3, "i": 0, "j": 1, "k": 2, "d": [0, 1, 3, 1, 0, 1, 3, 1, 0]}, [-1]),
        ({"n": 2, "i": 0, "j": 1, "k": 1, "d": [0, 1, 2, 0]}, [-1]),
        ({"n": 2, "i": 0, "j": 1, "k": 2, "d": [0, 1, 2, 0]}, [-2]),
        ({"n": 4, "i": -1, "j": 1, "k": 2, "d": flat(EXAMPLE)}, [-2]),
        ({"n": 2, "i": 0, "j": 1, "k": 1, "d": [0, 1000001, 1, 0]}, [-2]),
        ({"n": 33, "i": 0, "j": 1, "k": 2, "d": []}, [-2]),
    )


if __name__ == "__main__":
    unittest.main()
