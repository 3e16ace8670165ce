"""Promise 4: apart; and the refusals ahead of it, as far as they speak of apart."""

import itertools
import unittest

from descent.trees import apart
from distances import EXAMPLE, UNFIT, by_pairs, changed, comb, drawn_trees, flat, grown, held, star, wholes
from manners import Manners, Ranges


def is_cut_off(rows, inside):
    """The sentence of the document on one set."""
    outside = [kind for kind in range(len(rows)) if kind not in inside]
    for i, j in itertools.product(inside, repeat=2):
        for k, l in itertools.product(outside, repeat=2):
            near = rows[i][j] + rows[k][l]
            if near >= rows[i][k] + rows[j][l] or near >= rows[i][l] + rows[j][k]:
                return False
    return True


def cut_off_by_definition(rows):
    """All sets that are cut off, out of all that there are."""
    n = len(rows)
    sets = [inside for size in range(2, n - 1) for inside in itertools.combinations(range(1, n), size)]
    return {inside for inside in sets if is_cut_off(rows, inside)}


def turned(rows, order):
    """The rows with the kinds in another order."""
    return [[rows[i][j] for j in order] for i in order]


def in_pairs(n):
    """The rows of kinds of which 1 and 2, 3 and 4, .. stand together."""
    return by_pairs(n, lambda i, j: 2 if i % 2 == 1 and j == i + 1 else 4)


class ApartCase(unittest.TestCase):
    def answers(self, number, a, b):
        self.assertEqual(apart(len(a), flat(a), flat(b)), [number], (a, b))
        self.assertEqual(apart(len(a), flat(b), flat(a)), [number], (b, a))


class Alike(ApartCase):
    def test_the_same_distances(self):
        for rows in (EXAMPLE, comb(5), comb(32), star([1, 2, 3, 4]), grown([0, 0, 1, 1, 2, 2, 3])):
            self.answers(0, rows, rows)

    def test_other_lengths_alone(self):
        self.answers(0, EXAMPLE, [[2 * number for number in row] for row in EXAMPLE])
        self.answers(0, EXAMPLE, [[0, 16, 18, 20], [16, 0, 12, 14], [18, 12, 0, 8], [20, 14, 8, 0]])
        self.answers(0, star([1, 2, 3, 4, 5]), star([7, 1, 1, 9, 30]))
        self.answers(0, comb(32), by_pairs(32, lambda i, j: j - i + 2))

    def test_a_kind_on_the_way_and_one_beside_it(self):
        # That a kind has no way of its own is no set of two or more.
        self.answers(0, by_pairs(5, lambda i, j: j - i), by_pairs(5, lambda i, j: j - i + 2))
        self.answers(0, star([0, 1, 1, 1, 1]), star([1, 1, 1, 1, 0]))
        self.answers(0, star([0, 1, 1, 1, 1]), star([1, 1, 1, 1, 1]))

    def test_two_kinds(self):
        self.answers(0, [[0, 1], [1, 0]], [[0, 1], [1, 0]])
        self.answers(0, [[0, 1], [1, 0]], [[0, 1000000], [1000000, 0]])

    def test_three_kinds(self):
        trees = (star([1, 1, 1]), star([0, 1, 1]), star([1, 0, 1]), star([1, 1, 0]), by_pairs(3, lambda i, j: 1))
        for a, b in itertools.product(trees, repeat=2):
            self.answers(0, a, b)


class Unlike(ApartCase):
    def test_the_example_and_a_star(self):
        self.answers(1, EXAMPLE, star([1, 1, 1, 1]))

    def test_the_example_in_another_order(self):
        self.answers(2, EXAMPLE, turned(EXAMPLE, [0, 2, 1, 3]))
        self.answers(2, EXAMPLE, turned(EXAMPLE, [0, 3, 2, 1]))
        self.answers(0, EXAMPLE, turned(EXAMPLE, [0, 1, 3, 2]))
        # Of four kinds, 2 and 3 are cut off from 0 and 1 as 0 and 1 are from them.
        self.answers(0, EXAMPLE, turned(EXAMPLE, [1, 0, 2, 3]))
        self.answers(0, EXAMPLE, turned(EXAMPLE, [2, 3, 0, 1]))

    def test_kind_0_among_those_cut_off(self):
        # Kinds 0 and 1 stand together: what is counted is the set of all others.
        rows = by_pairs(6, lambda i, j: 2 if (i, j) == (0, 1) else 4)
        self.assertEqual(cut_off_by_definition(rows), {(2, 3, 4, 5)})
        self.answers(1, rows, star([1] * 6))
        self.answers(2, rows, by_pairs(6, lambda i, j: 2 if (i, j) == (0, 2) else 4))

    def test_kind_0_on_the_way_of_others(self):
        places = [2, 0, 1, 3, 4]
        line = by_pairs(5, lambda i, j: abs(places[i] - places[j]))
        self.assertEqual(cut_off_by_definition(line), {(1, 2), (3, 4)})
        self.answers(2, line, star([1] * 5))
        self.answers(1, line, by_pairs(5, lambda i, j: 2 if (i, j) == (1, 2) else 4))

    def test_some_sets_shared(self):
        a = wholes(([([([(1, 2), (2, 2)], 2), (3, 4)], 2), (4, 6), (5, 6)], 2))
        b = wholes(([([([(1, 2), (3, 2)], 2), (2, 4)], 2), (4, 6), (5, 6)], 2))
        c = wholes(([([(1, 2), (2, 2), (3, 4)], 2), ([(4, 6), (5, 6)], 2)], 2))
        self.answers(2, a, b)
        self.answers(2, a, c)
        self.answers(2, b, c)

    def test_what_is_counted_is_sets_not_how_many_more(self):
        a = in_pairs(7)
        b = by_pairs(7, lambda i, j: 2 if (i, j) in ((1, 3), (2, 4), (5, 6)) else 4)
        self.answers(4, a, b)


class ByDefinition(ApartCase):
    def compare(self, trees):
        told = [(rows, cut_off_by_definition(rows)) for rows in trees]
        seen = {}
        for (a, cut_by_a), (b, cut_by_b) in itertools.combinations_with_replacement(told, 2):
            seen[len(cut_by_a ^ cut_by_b)] = True
            self.answers(len(cut_by_a ^ cut_by_b), a, b)
        return seen

    def some_trees(self, n):
        """Trees with n kinds: stars, lines, combs, ones with kinds on the way, kind 0 among them, and drawn ones."""
        order = [(3 * i + 2) % n if n % 3 else n - 1 - i for i in range(n)]
        trees = [
            star([1] * n),
            star([0] + [1] * (n - 1)),
            star(list(range(n))[::-1]),
            comb(n),
            turned(comb(n), order),
            by_pairs(n, lambda i, j: j - i),
            turned(by_pairs(n, lambda i, j: j - i), order),
            in_pairs(n),
            turned(in_pairs(n), order),
            grown([0] * (n - 1)),
            grown([(i - 1) // 2 for i in range(1, n)]),
            turned(grown([(i - 1) // 2 for i in range(1, n)]), order),
        ]
        return trees + [wholes(tree) for tree in drawn_trees([n], 20)]

    def test_four_kinds(self):
        self.assertEqual(sorted(self.compare(self.some_trees(4))), [0, 1, 2])

    def test_all_small_rows_of_four_kinds(self):
        pairs = list(itertools.combinations(range(4), 2))
        told = [dict(zip(pairs, numbers)) for numbers in itertools.product(range(1, 4), repeat=6)]
        rows = [by_pairs(4, lambda i, j: distances[i, j]) for distances in told]
        fitting = [each for each in rows if apart(4, flat(each), flat(each)) == [0]]
        self.assertGreater(len(fitting), 60)
        for each in fitting:
            cut = cut_off_by_definition(each)
            for other in (EXAMPLE, turned(EXAMPLE, [0, 2, 1, 3]), turned(EXAMPLE, [0, 3, 2, 1]), star([1] * 4)):
                self.answers(len(cut ^ cut_off_by_definition(other)), each, other)

    def test_five_kinds(self):
        self.assertEqual(sorted(self.compare(self.some_trees(5))), [0, 1, 2, 3, 4])

    def test_six_kinds(self):
        self.assertGreater(len(self.compare(self.some_trees(6))), 5)

    def test_seven_kinds(self):
        self.assertGreater(len(self.compare(self.some_trees(7))), 6)

    def test_eight_kinds(self):
        self.assertGreater(len(self.compare(self.some_trees(8))), 7)

    def test_each_order_of_five_kinds(self):
        rows = by_pairs(5, lambda i, j: j - i)
        cut = cut_off_by_definition(rows)
        for order in itertools.permutations(range(5)):
            other = turned(rows, order)
            self.answers(len(cut ^ cut_off_by_definition(other)), rows, other)


class ThirtyTwo(ApartCase):
    def test_as_many_sets_as_can_be_and_none(self):
        self.answers(29, comb(32), star([1] * 32))
        self.answers(29, by_pairs(32, lambda i, j: j - i), star([0] + [1] * 31))

    def test_two_that_share_no_set(self):
        # The one cuts off 31 and 30, then 29 with them .., the other 1 and 2, then 3 with them ..
        order = [0] + list(range(31, 0, -1))
        self.answers(58, comb(32), turned(comb(32), order))

    def test_two_that_share_some_sets(self):
        order = list(range(32))
        order[1], order[2] = 2, 1
        self.answers(2, comb(32), turned(comb(32), order))
        order = list(range(32))
        order[30], order[1] = 1, 30
        self.answers(58, comb(32), turned(comb(32), order))

    def test_pairs(self):
        self.answers(15, in_pairs(32), star([1] * 32))
        # The comb cuts off 30 and 31, then 29 with them ..: none of the pairs.
        self.answers(44, in_pairs(32), comb(32))

    def test_drawn_trees(self):
        for n in (31, 32):
            told = [(wholes(tree), brackets(tree)) for tree in drawn_trees([n], 6)]
            for (a, cut_by_a), (b, cut_by_b) in itertools.combinations(told, 2):
                self.answers(len(cut_by_a ^ cut_by_b), a, b)


def brackets(tree):
    """The kinds within each bracket of a drawn tree but the outermost, each of which is longer than 0."""
    inner = tree[0]
    found = set()
    for part in inner if isinstance(inner, list) else []:
        if isinstance(part[0], list):
            found.add(frozenset(held(part)))
            found |= brackets(part)
    return found


class RefusalsOfA(Ranges, unittest.TestCase):
    unfit = [-1]

    def asked(self, n, d):
        return apart(n, d, flat(comb(n)) if d else [])


class RefusalsOfB(Ranges, unittest.TestCase):
    unfit = [-1]

    def asked(self, n, d):
        return apart(n, flat(comb(n)) if d else [], d)


class RefusalsOfBoth(Ranges, unittest.TestCase):
    unfit = [-1]

    def asked(self, n, d):
        return apart(n, d, d)


class RefusalsTogether(unittest.TestCase):
    def test_one_out_of_its_range_and_the_other_unfit(self):
        for cause, rows in UNFIT.items():
            n = len(rows)
            far = changed(comb(n), [(n - 1, n - 1)], 1000001)
            self.assertEqual(apart(n, flat(rows), flat(far)), [-2], cause)
            self.assertEqual(apart(n, flat(far), flat(rows)), [-2], cause)

    def test_both_unfit_for_unlike_causes(self):
        for a, b in itertools.product(UNFIT.values(), repeat=2):
            if len(a) == len(b):
                self.assertEqual(apart(len(a), flat(a), flat(b)), [-1])

    def test_unfit_where_no_set_is_to_be_told(self):
        self.assertEqual(apart(2, [0, 1, 2, 0], [0, 1, 1, 0]), [-1])
        self.assertEqual(apart(2, [0, 1, 1, 0], [0, 1, 2, 0]), [-1])
        self.assertEqual(apart(3, [0, 1, 3, 1, 0, 1, 3, 1, 0], flat(star([1, 1, 1]))), [-1])
        self.assertEqual(apart(3, flat(star([1, 1, 1])), [0, 1, 3, 1, 0, 1, 3, 1, 0]), [-1])


class Interface(Manners, unittest.TestCase):
    call = (apart,)
    calls = (
        ({"n": 4, "a": flat(EXAMPLE), "b": flat(EXAMPLE)}, [0]),
        ({"n": 4, "a": flat(EXAMPLE), "b": flat(star([1] * 4))}, [1]),
        ({"n": 4, "a": flat(star([1] * 4)), "b": flat(EXAMPLE)}, [1]),
        ({"n": 32, "a": flat(comb(32)), "b": flat(star([1] * 32))}, [29]),
        ({"n": 2, "a": [0, 1, 2, 0], "b": [0, 1, 1, 0]}, [-1]),
        ({"n": 2, "a": [0, 1, 1, 0], "b": [0, 1, 2, 0]}, [-1]),
        ({"n": 2, "a": [0, 1, 2, 0], "b": [0, 1000001, 1, 0]}, [-2]),
        ({"n": 33, "a": [], "b": []}, [-2]),
    )

    def test_one_list_for_both(self):
        d = flat(EXAMPLE)
        self.assertEqual(apart(4, d, d), [0])
        self.assertEqual(d, flat(EXAMPLE))


if __name__ == "__main__":
    unittest.main()
