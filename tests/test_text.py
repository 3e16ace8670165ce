"""Promise 2: text; and the refusals ahead of it, as far as they speak of text."""

import itertools
import unittest

from descent.trees import fits, text
from distances import EXAMPLE, by_pairs, comb, drawn_trees, flat, grown, star, wholes, written
from manners import Manners, Ranges


def answer(told):
    """The answer that holds the text told."""
    return [len(told)] + list(told.encode("ascii"))


def text_by_definition(rows):
    """The document's words, taken one by one."""
    def m(i, j):
        return rows[0][i] + rows[0][j] - rows[i][j]

    def part(kinds, h):
        if len(kinds) == 1:
            return f"{kinds[0]}:{2 * rows[0][kinds[0]] - h}"
        t = min(m(i, j) for i, j in itertools.combinations(kinds, 2))
        groups = {tuple(j for j in kinds if i == j or m(i, j) > t) for i in kinds}
        return f"({','.join(part(group, t) for group in sorted(groups, key=min))}):{t - h}"

    return "0=" + part(range(1, len(rows)), 0)


class TextCase(unittest.TestCase):
    def tells(self, told, rows):
        self.assertEqual(text(len(rows), flat(rows)), answer(told), rows)


class Written(TextCase):
    def test_the_documents_example(self):
        self.assertEqual(
            text(4, [0, 5, 5, 5, 5, 0, 4, 4, 5, 4, 0, 2, 5, 4, 2, 0]),
            [21, 48, 61, 40, 49, 58, 52, 44, 40, 50, 58, 50, 44, 51, 58, 50, 41, 58, 50, 41, 58, 54],
        )

    def test_the_first_number_is_how_many_follow(self):
        for n in range(2, 33):
            given = text(n, flat(comb(n)))
            self.assertEqual(given[0], len(given) - 1)

    def test_two_kinds(self):
        self.tells("0=1:2", [[0, 1], [1, 0]])
        self.tells("0=1:10", [[0, 5], [5, 0]])
        self.tells("0=1:2000000", [[0, 1000000], [1000000, 0]])

    def test_three_kinds(self):
        self.tells("0=(1:4,2:6):2", [[0, 3, 4], [3, 0, 5], [4, 5, 0]])

    def test_lengths_that_are_odd_numbers_of_halves(self):
        self.tells("0=(1:1,2:1):1", by_pairs(3, lambda i, j: 1))
        self.tells("0=(1:3,(2:2,3:2):1):5", [[0, 4, 4, 4], [4, 0, 3, 3], [4, 3, 0, 2], [4, 3, 2, 0]])

    def test_the_greatest_lengths(self):
        self.tells("0=(1:1000000,2:1000000):1000000", by_pairs(3, lambda i, j: 1000000))
        self.tells("0=(1:0,2:1999998):2", [[0, 1, 1000000], [1, 0, 999999], [1000000, 999999, 0]])
        self.tells("0=(1:1999998,2:2):0", [[0, 999999, 1], [999999, 0, 1000000], [1, 1000000, 0]])


class LengthsOf0(TextCase):
    def test_a_kind_on_the_way_to_another(self):
        self.tells("0=(1:0,2:4):2", [[0, 1, 3], [1, 0, 2], [3, 2, 0]])
        self.tells("0=(1:4,2:0):2", [[0, 3, 1], [3, 0, 2], [1, 2, 0]])

    def test_kind_0_on_the_way_of_others(self):
        self.tells("0=(1:2,2:4):0", [[0, 1, 2], [1, 0, 3], [2, 3, 0]])
        self.tells("0=(1:2,(2:2,3:2):2):0", [[0, 1, 2, 2], [1, 0, 3, 3], [2, 3, 0, 2], [2, 3, 2, 0]])

    def test_a_line_of_kinds(self):
        self.tells("0=(1:0,(2:0,(3:0,4:2):2):2):2", by_pairs(5, lambda i, j: j - i))

    def test_a_line_of_kinds_the_last_first(self):
        places = [0, 4, 3, 2, 1]
        self.tells("0=(((1:2,2:0):2,3:0):2,4:0):2", by_pairs(5, lambda i, j: abs(places[i] - places[j])))

    def test_a_line_of_kinds_with_0_within(self):
        places = [2, 0, 1, 3, 4]
        self.tells("0=((1:2,2:0):2,(3:0,4:2):2):0", by_pairs(5, lambda i, j: abs(places[i] - places[j])))

    def test_a_kind_where_all_others_hang(self):
        self.tells("0=(1:2,2:4,3:0,4:6):10", star([5, 1, 2, 0, 3]))
        self.tells("0=(1:2,2:4,3:6,4:8):0", star([0, 1, 2, 3, 4]))

    def test_kinds_within_the_tree(self):
        self.tells("0=((1:0,3:6,4:8):2,(2:0,5:10):4):0", grown([0, 0, 1, 1, 2]))


class Groups(TextCase):
    def test_three_parts_and_more(self):
        self.tells("0=(1:4,2:6,3:8):2", star([1, 2, 3, 4]))
        self.tells("0=(1:2,2:2,3:2,4:2,5:2):2", by_pairs(6, lambda i, j: 2))

    def test_a_group_of_three_within_a_group_of_three(self):
        self.tells(
            "0=(1:6,(2:2,3:2,4:2):4,5:6):2",
            by_pairs(6, lambda i, j: 2 if i in (2, 3) and j in (3, 4) else 4 if i == 0 else 6),
        )

    def test_thirty_one_parts(self):
        parts = ",".join(f"{i}:{2 * i + 2}" for i in range(1, 32))
        self.tells(f"0=({parts}):2", star(list(range(1, 33))))

    def test_as_deep_as_thirty_two_kinds_allow(self):
        # Kind i leaves the line at i, by a way of 1; the last one goes straight on.
        told = "31:4"
        for i in range(30, 0, -1):
            told = f"({i}:2,{told}):{4 if i == 1 else 2}"
        self.tells("0=" + told, by_pairs(32, lambda i, j: j - i + 2))
        self.assertEqual(told.count("("), 30)

    def test_as_deep_with_the_last_numbers_ahead(self):
        told = "1:4"
        for i in range(2, 32):
            told = f"({told},{i}:2):{4 if i == 31 else 2}"
        places = [0] + list(range(31, 0, -1))
        self.tells("0=" + told, by_pairs(32, lambda i, j: abs(places[i] - places[j]) + 2))

    def test_numbers_of_two_digits(self):
        rows = by_pairs(13, lambda i, j: 2 if (i, j) in ((9, 10), (11, 12)) else 4)
        self.tells("0=(1:4,2:4,3:4,4:4,5:4,6:4,7:4,8:4,(9:2,10:2):2,(11:2,12:2):2):4", rows)


class Order(TextCase):
    def test_groups_of_kinds_that_are_no_neighbours(self):
        rows = by_pairs(5, lambda i, j: 2 if (i, j) in ((1, 4), (2, 3)) else 4)
        self.tells("0=((1:2,4:2):2,(2:2,3:2):2):4", rows)
        rows = by_pairs(5, lambda i, j: 2 if (i, j) in ((1, 3), (2, 4)) else 4)
        self.tells("0=((1:2,3:2):2,(2:2,4:2):2):4", rows)

    def test_one_kind_between_the_kinds_of_a_group(self):
        self.tells("0=((1:2,3:2):2,2:4):4", by_pairs(4, lambda i, j: 2 if (i, j) == (1, 3) else 4))
        self.tells("0=(1:4,(2:2,3:2):2):4", by_pairs(4, lambda i, j: 2 if (i, j) == (2, 3) else 4))
        self.tells("0=((1:2,2:2):2,3:4):4", by_pairs(4, lambda i, j: 2 if (i, j) == (1, 2) else 4))

    def test_by_number_not_by_sign(self):
        rows = by_pairs(12, lambda i, j: 2 if (i, j) in ((2, 11), (9, 10)) else 4)
        self.tells("0=(1:4,(2:2,11:2):2,3:4,4:4,5:4,6:4,7:4,8:4,(9:2,10:2):2):4", rows)

    def test_the_least_number_not_the_nearest_or_the_greatest_group(self):
        self.tells("0=(1:20,2:2,3:12):2", star([1, 10, 1, 6]))
        self.tells("0=(1:8,(2:2,3:2,4:2,5:2):6):2", by_pairs(6, lambda i, j: 5 if i == 0 else 8 if i == 1 else 2))

    def test_a_least_number_deep_within_its_group(self):
        rows = wholes(([([([(1, 2), (6, 2)], 2), (5, 4)], 2), (2, 6), ([(3, 4), (4, 4)], 2)], 2))
        self.tells("0=(((1:2,6:2):2,5:4):2,2:6,(3:4,4:4):2):2", rows)


class ManyTrees(TextCase):
    def test_the_text_that_the_distances_are_made_from(self):
        for tree in drawn_trees(range(2, 33), 10):
            self.tells("0=" + written(tree), wholes(tree))

    def test_by_definition_all_small_rows_of_four_kinds(self):
        pairs = list(itertools.combinations(range(4), 2))
        seen = {}
        for numbers in itertools.product(range(1, 5), repeat=6):
            told = dict(zip(pairs, numbers))
            rows = by_pairs(4, lambda i, j: told[i, j])
            if fits(4, flat(rows)) == [1]:
                seen[text_by_definition(rows)] = True
                self.tells(text_by_definition(rows), rows)
        self.assertGreater(len(seen), 100)

    def test_by_definition_combs_and_kinds_on_the_way(self):
        for n in range(2, 33):
            self.tells(text_by_definition(comb(n)), comb(n))
            rows = grown([11 * i // 7 % i for i in range(1, n)])
            self.tells(text_by_definition(rows), rows)

    def test_another_order_of_the_kinds(self):
        rows = comb(5)
        for order in itertools.permutations(range(5)):
            turned = [[rows[i][j] for j in order] for i in order]
            self.tells(text_by_definition(turned), turned)


class Refusals(Ranges, unittest.TestCase):
    unfit = [-1]

    def asked(self, n, d):
        return text(n, d)


class Interface(Manners, unittest.TestCase):
    call = (text,)
    calls = (
        ({"n": 4, "d": flat(EXAMPLE)}, answer("0=(1:4,(2:2,3:2):2):6")),
        ({"n": 2, "d": [0, 1, 1, 0]}, answer("0=1:2")),
        ({"n": 32, "d": flat(comb(32))}, answer(text_by_definition(comb(32)))),
        ({"n": 3, "d": [0, 1, 3, 1, 0, 1, 3, 1, 0]}, [-1]),
        ({"n": 2, "d": [0, 1, 2, 0]}, [-1]),
        ({"n": 2, "d": [0, 1000001, 1, 0]}, [-2]),
        ({"n": 33, "d": []}, [-2]),
    )


if __name__ == "__main__":
    unittest.main()
