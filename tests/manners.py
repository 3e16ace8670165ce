"""What holds for every call alike: what it gives back, what it leaves alone, what it doesn't do."""

import contextlib
import io
import itertools
from unittest import mock

from distances import EXAMPLE, UNFIT, by_pairs, changed, comb, flat, star


class Untouched(list):
    """A list that fails where it is changed, be it for a while."""

    def refuse(self, *args, **kwargs):
        raise AssertionError("what is handed in is changed")

    __setitem__ = __delitem__ = __iadd__ = __imul__ = refuse
    append = clear = extend = insert = pop = remove = reverse = sort = refuse


def untouched(given):
    """The dict of a call's arguments, with lists that fail where they are changed."""
    return {name: Untouched(value) if isinstance(value, list) else value for name, value in given.items()}


class Manners:
    """Tests for a TestCase that has call, a function in a tuple of its own, and calls, of pairs (arguments, answer)."""

    def answer_of(self, given):
        return self.call[0](**given)

    def test_each_is_answered_as_told(self):
        for given, answer in self.calls:
            self.assertEqual(self.answer_of(given), answer, given)

    def test_the_arguments_in_their_order(self):
        for given, answer in self.calls:
            self.assertEqual(self.call[0](*given.values()), answer, given)

    def test_a_list_of_whole_numbers(self):
        for given, answer in self.calls:
            numbers = self.answer_of(given)
            self.assertIs(type(numbers), list)
            self.assertEqual({type(number) for number in numbers}, {int})

    def test_a_refusal_stands_alone(self):
        refused = [self.answer_of(given) for given, answer in self.calls if answer[0] < 0]
        self.assertNotEqual(refused, [])
        for numbers in refused:
            self.assertEqual(len(numbers), 1)

    def test_what_is_handed_in_is_not_changed(self):
        for given, answer in self.calls:
            handed = untouched(given)
            self.assertEqual(self.answer_of(handed), answer)
            self.assertEqual(handed, given)

    def test_nothing_is_kept(self):
        for given, answer in self.calls + self.calls[::-1]:
            first = self.answer_of(given)
            self.assertEqual(first, answer)
            # What is given back is the caller's own: a change of it has no bearing on the next answer.
            first.append(7)
            self.assertEqual(self.answer_of(given), answer)

    def test_it_prints_reads_and_imports_nothing(self):
        out = io.StringIO()
        with contextlib.redirect_stdout(out), contextlib.redirect_stderr(out):
            with mock.patch("builtins.open") as opened, mock.patch("builtins.input") as asked:
                with mock.patch("builtins.__import__") as imported:
                    answers = [self.answer_of(given) for given, answer in self.calls]
        self.assertEqual(answers, [answer for given, answer in self.calls])
        self.assertEqual(out.getvalue(), "")
        for used in (opened, asked, imported):
            used.assert_not_called()


class Ranges:
    """Tests for a TestCase that has asked(n, d), the answer to d of n kinds, and unfit, that to d that doesn't fit."""

    def test_n_out_of_its_range(self):
        for n in (1, 33, 0, -1, 34, 1024, -2, -32, -2147483648, 2147483647):
            self.assertEqual(self.asked(n, []), [-2], n)

    def test_n_at_the_ends_of_its_range(self):
        for n in (2, 32):
            self.assertNotEqual(self.asked(n, flat(star([1] * n))), [-2], n)
            self.assertNotEqual(self.asked(n, flat(star([1] * n))), self.unfit, n)

    def test_a_distance_out_of_its_range_wherever_it_stands(self):
        for rows in (comb(2), comb(3), EXAMPLE, comb(32)):
            for place in itertools.product(range(len(rows)), repeat=2):
                for distance in (1000001, 2147483647, -1):
                    self.assertEqual(self.asked(len(rows), flat(changed(rows, [place], distance))), [-2])

    def test_all_distances_out_of_their_range(self):
        self.assertEqual(self.asked(2, [1000001] * 4), [-2])
        self.assertEqual(self.asked(32, [2147483647] * 1024), [-2])

    def test_the_greatest_distance_is_no_refusal(self):
        for n in (2, 3, 32):
            rows = by_pairs(n, lambda i, j: 1000000)
            self.assertNotEqual(self.asked(n, flat(rows)), [-2])
            self.assertNotEqual(self.asked(n, flat(rows)), self.unfit)

    def test_each_cause_not_to_fit(self):
        for cause, rows in UNFIT.items():
            self.assertEqual(self.asked(len(rows), flat(rows)), self.unfit, cause)

    def test_the_greatest_distance_where_it_does_not_fit(self):
        for place in itertools.product(range(4), repeat=2):
            self.assertEqual(self.asked(4, flat(changed(EXAMPLE, [place], 1000000))), self.unfit)

    def test_a_distance_out_of_its_range_where_the_rest_does_not_fit(self):
        for cause, rows in UNFIT.items():
            for place in itertools.product(range(len(rows)), repeat=2):
                for distance in (1000001, 2147483647):
                    self.assertEqual(self.asked(len(rows), flat(changed(rows, [place], distance))), [-2], cause)
