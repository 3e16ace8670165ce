"""What the document promises over the whole program: the sentences that hold for all six functions."""

import ast
import inspect
import itertools
import pathlib
import unittest

import test_apart
import test_clock
import test_fits
import test_middle
import test_read
import test_text
from descent import trees
from distances import EXAMPLE, UNFIT, changed, comb, drawn_trees, flat, grown, star, wholes
from manners import untouched

PARAMETERS = {
    "fits": ["n", "d"],
    "text": ["n", "d"],
    "read": ["data"],
    "apart": ["n", "a", "b"],
    "clock": ["n", "d"],
    "middle": ["n", "i", "j", "k", "d"],
}

# Each call (function, arguments, answer) that the tests of one function tell.
CALLS = [
    (module.Interface.call[0], given, answer)
    for module in (test_fits, test_text, test_read, test_apart, test_clock, test_middle)
    for given, answer in module.Interface.calls
]
SHORT_CALLS = [call for call in CALLS if call[1].get("n") != 32]

# What each function that takes distances is asked of them.
ASKED = {
    "fits": lambda n, d: trees.fits(n, d),
    "text": lambda n, d: trees.text(n, d),
    "apart, the first": lambda n, d: trees.apart(n, d, flat(comb(n)) if d else []),
    "apart, the second": lambda n, d: trees.apart(n, flat(comb(n)) if d else [], d),
    "clock": lambda n, d: trees.clock(n, d),
    "middle": lambda n, d: trees.middle(n, 0, 1, 1, d),
}


def some_trees():
    """Rows that fit a tree."""
    made = [EXAMPLE, comb(2), comb(7), comb(32), star([1, 2, 3, 4]), star([0, 1, 1]), grown([0, 0, 1, 1, 2, 2])]
    return made + [wholes(tree) for tree in drawn_trees(range(2, 10), 2)]


class Functions(unittest.TestCase):
    def test_the_names_and_their_arguments(self):
        for name, parameters in PARAMETERS.items():
            told = inspect.signature(getattr(trees, name)).parameters
            self.assertEqual(list(told), parameters)
            self.assertEqual({parameter.default for parameter in told.values()}, {inspect.Parameter.empty})

    def test_calls_of_all_six_are_at_hand(self):
        self.assertEqual(sorted({call.__name__ for call, given, answer in CALLS}), sorted(PARAMETERS))

    def test_nothing_from_outside_the_package_is_imported(self):
        files = sorted(pathlib.Path(trees.__file__).parent.glob("*.py"))
        self.assertNotEqual(files, [])
        for file in files:
            for node in ast.walk(ast.parse(file.read_text())):
                self.assertNotIsInstance(node, ast.Import)
                if isinstance(node, ast.ImportFrom):
                    self.assertTrue(node.module.startswith("descent."), node.module)


class NothingKept(unittest.TestCase):
    def test_any_call_behind_any_other(self):
        for ahead, behind in itertools.product(SHORT_CALLS, repeat=2):
            ahead[0](**ahead[1])
            self.assertEqual(behind[0](**behind[1]), behind[2], (ahead, behind))

    def test_all_calls_there_and_back(self):
        for call, given, answer in CALLS + CALLS[::-1]:
            self.assertEqual(call(**given), answer)

    def test_what_was_given_back_may_be_changed(self):
        for call, given, answer in SHORT_CALLS:
            call(**given).clear()
            for other, others_given, others_answer in SHORT_CALLS:
                self.assertEqual(other(**others_given), others_answer)

    def test_the_module_is_as_it_was(self):
        before = {name: repr(value) for name, value in vars(trees).items() if name != "__builtins__"}
        for call, given, answer in CALLS:
            call(**given)
        after = {name: repr(value) for name, value in vars(trees).items() if name != "__builtins__"}
        self.assertEqual(after, before)


class HandedIn(unittest.TestCase):
    def test_each_call_leaves_it_alone(self):
        for call, given, answer in CALLS:
            handed = untouched(given)
            self.assertEqual(call(**handed), answer)
            self.assertEqual(handed, given)

    def test_one_list_for_all(self):
        for rows in some_trees() + list(UNFIT.values()):
            d = untouched({"d": flat(rows)})["d"]
            for asked in ASKED.values():
                asked(len(rows), d)
            trees.apart(len(rows), d, d)
            self.assertEqual(d, flat(rows))

    def test_what_is_given_back_is_another_list(self):
        for call, given, answer in CALLS:
            self.assertFalse(any(call(**given) is value for value in given.values()))


class GivenBack(unittest.TestCase):
    def test_a_list_of_whole_numbers(self):
        for call, given, answer in CALLS:
            numbers = call(**given)
            self.assertIs(type(numbers), list)
            self.assertEqual({type(number) for number in numbers}, {int})

    def test_a_refusal_is_one_number_alone(self):
        for call, given, answer in CALLS:
            numbers = call(**given)
            if min(numbers) < 0:
                self.assertIn(numbers, ([-1], [-2]))

    def test_all_but_text_and_read_answer_one_number(self):
        for rows in some_trees() + list(UNFIT.values()):
            for name, asked in ASKED.items():
                numbers = asked(len(rows), flat(rows))
                self.assertTrue(len(numbers) == 1 or name == "text", name)

    def test_each_function_refuses(self):
        refused = {(call.__name__, answer[0]) for call, given, answer in CALLS if answer[0] < 0}
        self.assertEqual({name for name, number in refused if number == -2}, set(PARAMETERS))
        self.assertEqual({name for name, number in refused if number == -1}, set(PARAMETERS) - {"fits", "clock"})


class RefusalsInTheirOrder(unittest.TestCase):
    def test_a_distance_ahead_of_distances_that_do_not_fit(self):
        for cause, rows in UNFIT.items():
            n = len(rows)
            for name, asked in ASKED.items():
                self.assertIn(asked(n, flat(rows)), ([0], [-1]), (name, cause))
                for place in ((0, 0), (0, n - 1), (n - 1, 0), (n - 1, n - 1)):
                    for distance in (1000001, 2147483647):
                        self.assertEqual(asked(n, flat(changed(rows, [place], distance))), [-2], (name, cause))

    def test_n_out_of_its_range(self):
        for n in (-2147483648, -1, 0, 1, 33, 2147483647):
            for name, asked in ASKED.items():
                self.assertEqual(asked(n, []), [-2], name)

    def test_either_list_of_apart(self):
        far = changed(EXAMPLE, [(1, 2)], 1000001)
        unfit = changed(EXAMPLE, [(1, 2)], 1)
        self.assertEqual(trees.apart(4, flat(unfit), flat(EXAMPLE)), [-1])
        self.assertEqual(trees.apart(4, flat(unfit), flat(far)), [-2])
        self.assertEqual(trees.apart(4, flat(far), flat(unfit)), [-2])

    def test_a_kind_that_is_none_ahead_of_distances_that_do_not_fit(self):
        for rows in UNFIT.values():
            n = len(rows)
            self.assertEqual(trees.middle(n, 0, 0, 0, flat(rows)), [-1])
            for kinds in ((n, 0, 0), (0, n, 0), (0, 0, n), (-1, 0, 0), (0, -1, 0), (0, 0, -1)):
                self.assertEqual(trees.middle(n, *kinds, flat(rows)), [-2])

    def test_too_many_bytes_ahead_of_a_text_that_is_none(self):
        for byte in (0, 40, 48, 255):
            self.assertEqual(trees.read([byte] * 4096), [-1])
            self.assertEqual(trees.read([byte] * 4097), [-2])


class OneTree(unittest.TestCase):
    def test_what_text_writes_read_reads(self):
        for rows in some_trees():
            told = trees.text(len(rows), flat(rows))
            self.assertEqual(trees.read(told[1:]), [len(rows)] + [2 * distance for distance in flat(rows)])

    def test_what_fits_is_refused_by_none(self):
        for rows in some_trees():
            for name, asked in ASKED.items():
                self.assertGreaterEqual(asked(len(rows), flat(rows))[0], 0, name)
            self.assertEqual(trees.fits(len(rows), flat(rows)), [1])
            self.assertEqual(trees.apart(len(rows), flat(rows), flat(rows)), [0])

    def test_two_ends_to_the_middle_are_the_way_between_them(self):
        for rows in some_trees():
            n = len(rows)
            for i, j, k in ((0, 1, n - 1), (n - 1, 0, n // 2), (n // 2, n - 1, 1)):
                there = trees.middle(n, i, j, k, flat(rows))[0]
                back = trees.middle(n, j, i, k, flat(rows))[0]
                self.assertEqual(there + back, 2 * rows[i][j])


if __name__ == "__main__":
    unittest.main()
