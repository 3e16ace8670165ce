"""Promise 3: read; and the refusal ahead of it, as far as it speaks of read."""

import itertools
import re
import unittest

from descent.trees import read, text
from distances import comb, drawn_trees, flat, grown, halves, held, parts_within, star, written
from manners import Manners

SIGNS = "0123456789=:,()"
EXAMPLE_TEXT = "0=(1:4,(2:2,3:2):2):6"
EXAMPLE_ROWS = [0, 10, 10, 10, 10, 0, 8, 8, 10, 8, 0, 4, 10, 8, 4, 0]


def read_text(told):
    return read(list(told.encode("latin-1")))


def answer(rows):
    """The answer that holds the rows."""
    return [len(rows)] + flat(rows)


KIND_PART = re.compile(r"(?<![0-9])(?P<kind>[0-9]+):(?P<length>[0-9]+)")
BRACKET_PART = re.compile(r"\((?P<parts>#[0-9]+#(,#[0-9]+#)+)\):(?P<length>[0-9]+)")


def number(digits, least, most):
    """The number, or None if it isn't one from least to most."""
    return int(digits) if re.fullmatch("0|[1-9][0-9]*", digits) and least <= int(digits) <= most else None


def read_by_definition(told):
    """The document's words, taken from within: what is a part is put down as #0#, #1#, .., till one is left."""
    trees = []
    rest = told[2:]
    while told.startswith("0=") and "#" not in told:
        if re.fullmatch("#[0-9]+#", rest):
            return rows_by_definition(trees[int(rest[1:-1])])
        found = KIND_PART.search(rest) or BRACKET_PART.search(rest)
        if not found:
            break
        length = number(found["length"], 0, 2147483647)
        if found.re is KIND_PART:
            inner = number(found["kind"], 1, 31)
        else:
            inner = [trees[int(at)] for at in re.findall("[0-9]+", found["parts"])]
        if length is None or inner is None:
            break
        rest = rest[:found.start()] + f"#{len(trees)}#" + rest[found.end():]
        trees.append((inner, length))
    return [-1]


def rows_by_definition(tree):
    kinds = held(tree)
    return answer(halves(tree)) if sorted(kinds) == list(range(1, len(kinds) + 1)) else [-1]


class ReadCase(unittest.TestCase):
    def tells(self, rows, told):
        self.assertEqual(read_text(told), answer(rows), told)

    def refuses(self, *texts):
        for told in texts:
            self.assertEqual(read_text(told), [-1], told)


class Told(ReadCase):
    def test_the_documents_example(self):
        data = [48, 61, 40, 49, 58, 52, 44, 40, 50, 58, 50, 44, 51, 58, 50, 41, 58, 50, 41, 58, 54]
        self.assertEqual(read(data), [4, 0, 10, 10, 10, 10, 0, 8, 8, 10, 8, 0, 4, 10, 8, 4, 0])

    def test_the_least_text(self):
        self.tells([[0, 0], [0, 0]], "0=1:0")
        self.tells([[0, 7], [7, 0]], "0=1:7")
        self.tells([[0, 10], [10, 0]], "0=1:10")

    def test_each_length_counts_for_those_that_its_part_holds(self):
        self.tells([[0, 101, 102], [101, 0, 3], [102, 3, 0]], "0=(1:1,2:2):100")
        self.tells(
            [[0, 1001, 1110, 1120], [1001, 0, 111, 121], [1110, 111, 0, 30], [1120, 121, 30, 0]],
            "0=(1:1,(2:10,3:20):100):1000",
        )

    def test_numbers_in_any_order(self):
        self.tells([[0, 102, 101], [102, 0, 3], [101, 3, 0]], "0=(2:1,1:2):100")
        self.tells(
            [[0, 1120, 1001, 1110], [1120, 0, 121, 30], [1001, 121, 0, 111], [1110, 30, 111, 0]],
            "0=((3:10,1:20):100,2:1):1000",
        )
        parts = ["1:1", "2:2", "3:4", "4:8"]
        rows = [[0, 17, 18, 20, 24], [17, 0, 3, 5, 9], [18, 3, 0, 6, 10], [20, 5, 6, 0, 12], [24, 9, 10, 12, 0]]
        for order in itertools.permutations(parts):
            self.tells(rows, f"0=({','.join(order)}):16")

    def test_lengths_of_0(self):
        self.tells([[0] * 3] * 3, "0=(1:0,2:0):0")
        self.tells([[0] * 4] * 4, "0=(1:0,(2:0,3:0):0):0")
        self.tells([[0, 2, 6], [2, 0, 4], [6, 4, 0]], "0=(1:0,2:4):2")
        self.tells([[0, 2, 4], [2, 0, 6], [4, 6, 0]], "0=(1:2,2:4):0")

    def test_the_greatest_length(self):
        most = 2147483647
        self.tells([[0, most], [most, 0]], "0=1:2147483647")
        self.tells([[0, most - 1], [most - 1, 0]], "0=1:2147483646")
        self.tells([[0, 1999999999], [1999999999, 0]], "0=1:1999999999")

    def test_sums_above_the_greatest_length(self):
        most = 2147483647
        self.tells([[0, 2 * most, most], [2 * most, 0, most], [most, most, 0]], "0=(1:2147483647,2:0):2147483647")
        far = 3 * most
        self.tells(
            [[0, 2 * most, far, far], [2 * most, 0, far, far], [far, far, 0, 2 * most], [far, far, 2 * most, 0]],
            "0=(1:2147483647,(2:2147483647,3:2147483647):2147483647):2147483647",
        )

    def test_parts_that_hold_two(self):
        self.tells(
            [[0, 6, 6, 6, 6], [6, 0, 4, 8, 8], [6, 4, 0, 8, 8], [6, 8, 8, 0, 4], [6, 8, 8, 4, 0]],
            "0=((1:2,2:2):2,(3:2,4:2):2):2",
        )

    def test_a_text_that_text_would_not_write(self):
        # Lengths of 0 where parts part, kinds at one place, odd distances from kind 0: a text all the same.
        self.tells([[0, 1, 1, 1], [1, 0, 0, 0], [1, 0, 0, 0], [1, 0, 0, 0]], "0=((3:0,2:0):0,1:0):1")


class AllThirtyOne(ReadCase):
    def test_side_by_side(self):
        rows = star([100] + list(range(1, 32)))
        for kinds in (range(1, 32), range(31, 0, -1)):
            parts = ",".join(f"{kind}:{kind}" for kind in kinds)
            self.tells(rows, f"0=({parts}):100")

    def test_nested_as_deep_as_can_be(self):
        told = "31:2"
        for kind in range(30, 0, -1):
            told = f"({kind}:1,{told}):1"
        rows = [[0 if i == j else abs(i - j) + (i > 0) + (j > 0) for j in range(32)] for i in range(32)]
        self.tells(rows, "0=" + told)

    def test_the_longest_text(self):
        told = "1:2147483647"
        for kind in range(2, 32):
            told = f"({told},{kind}:2147483647):2147483647"
        given = read_text("0=" + told)
        self.assertEqual(given[:4], [32, 0, 31 * 2147483647, 31 * 2147483647])
        self.assertEqual(given, read_by_definition("0=" + told))

    def test_each_n(self):
        for n in range(3, 33):
            parts = ",".join(f"{kind}:1" for kind in range(1, n))
            self.tells(star([1] * n), f"0=({parts}):1")


class NoText(ReadCase):
    def test_empty(self):
        self.assertEqual(read([]), [-1])

    def test_each_beginning_of_a_text(self):
        for end in range(len(EXAMPLE_TEXT)):
            self.refuses(EXAMPLE_TEXT[:end])

    def test_0_and_its_sign_missing(self):
        self.refuses("1:2", "=1:2", "01:2", "(1:2,2:2):2", "0", "=", "0(1:2,2:2):2")

    def test_another_than_0(self):
        self.refuses("1=1:2", "1=2:2", "9=1:2", "00=1:2", "10=1:2", "0==1:2", "0:=1:2", "0:0=1:2", "=01:2", "-0=1:2")

    def test_something_ahead(self):
        self.refuses(" 0=1:2", "(0=1:2", "(0=1:2)", "00=1:2", ",0=1:2", "1:2,0=1:2", "\n0=1:2", "0=0=1:2", "\x000=1:2")

    def test_nothing_behind_0(self):
        self.refuses("0=")

    def test_something_behind_the_part(self):
        for more in (",", ")", ":", "=", "(", " ", "\n", "\x00", ":0", ":2", ",2:2", ")2", "()", "0=1:2", ";", "."):
            self.refuses("0=1:2" + more)
            self.refuses(EXAMPLE_TEXT + more)
        self.refuses("0=1:2,2:2", "0=1:2,2:2,3:2", "0=1:2)", "0=1:2):2")
        self.refuses("0=(1:2,2:2):2,3:2", "0=(1:2,2:2):2(3:2,4:2):2")


class PartsWithoutLengths(ReadCase):
    def test_a_kind_without_its_length(self):
        self.refuses("0=1", "0=1:", "0=12", "0=(1,2:2):2", "0=(1:,2:2):2", "0=(1:2,2):2", "0=(1:2,2:):2")

    def test_a_bracket_without_its_length(self):
        self.refuses("0=(1:2,2:2)", "0=(1:2,2:2):", "0=(1:2,2:2)2")
        self.refuses("0=((1:2,2:2),3:2):2", "0=((1:2,2:2):,3:2):2", "0=(1:2,(2:2,3:2)):2", "0=(1:2,(2:2,3:2):):2")

    def test_a_length_alone(self):
        self.refuses("0=:2", "0=(:2,2:2):2", "0=(1:2,:2):2")

    def test_two_lengths(self):
        self.refuses("0=1:2:2", "0=1::2", "0=(1:2:2,2:2):2", "0=(1:2,2:2)::2", "0=(1:2,2:2):2:2")


class Lengths(ReadCase):
    def test_a_zero_in_front(self):
        for digits in ("00", "01", "07", "000", "010", "0000000000", "02147483647", "0" * 4000, "0" * 4000 + "1"):
            self.refuses(f"0=1:{digits}", f"0=(1:{digits},2:2):2", f"0=(1:2,2:{digits}):2", f"0=(1:2,2:2):{digits}")

    def test_above_the_greatest(self):
        for digits in ("2147483648", "2147483650", "2147483700", "3000000000", "9999999999", "10000000000",
                       "21474836470", "4294967296", "4294967297", "18446744073709551617", "9" * 4000):
            self.refuses(f"0=1:{digits}", f"0=(1:{digits},2:2):2", f"0=(1:2,2:{digits}):2", f"0=(1:2,2:2):{digits}")

    def test_no_whole_number(self):
        for digits in ("-1", "-0", "+1", "1.0", "1e3", "0x1", "1_0", "a", "1a", " 1", "1 ", "\xb2", "1\xb2"):
            self.refuses(f"0=1:{digits}", f"0=(1:2,2:2):{digits}")


class Kinds(ReadCase):
    def test_0(self):
        self.refuses("0=0:2", "0=(0:2,1:2):2", "0=(1:2,0:2):2", "0=(1:2,(0:2,2:2):2):2", "0=(0:2,1:2,2:2):2")

    def test_a_zero_in_front(self):
        self.refuses("0=01:2", "0=001:2", "0=(01:2,2:2):2", "0=(1:2,02:2):2", "0=00:2", "0=" + "0" * 4000 + "1:2")
        parts = [f"{kind}:1" for kind in range(1, 11)]
        self.assertEqual(read_text(f"0=({','.join(parts)}):1")[0], 11)
        self.refuses(f"0=({','.join(parts[:-1])},010:1):1")

    def test_above_31(self):
        parts = [f"{kind}:1" for kind in range(1, 34)]
        self.assertEqual(read_text(f"0=({','.join(parts[:31])}):1")[0], 32)
        self.refuses(f"0=({','.join(parts[:32])}):1", f"0=({','.join(parts)}):1", f"0=({','.join(parts[:30])},32:1):1")
        self.refuses("0=32:2", "0=99:2", "0=100:2", "0=310:2", "0=1000000000000:2", f"0={'9' * 4000}:2")

    def test_one_that_stands_twice(self):
        self.refuses("0=(1:2,1:2):2", "0=(1:2,2:2,2:2):2", "0=(1:2,2:2,1:2):2", "0=(1:2,(2:2,1:2):2):2")
        self.refuses("0=((1:2,2:2):2,(1:2,2:2):2):2")
        for kind in range(1, 32):
            parts = ",".join(f"{other}:1" for other in list(range(1, 32)) + [kind])
            self.refuses(f"0=({parts}):1")

    def test_as_many_as_the_bytes_allow(self):
        parts = ",".join(["1:1"] * 1000)
        self.refuses(f"0=({parts}):1")
        parts = ",".join(f"{1 + at % 31}:1" for at in range(700))
        self.refuses(f"0=({parts}):1")
        told = "1:1"
        while len(told) < 4000:
            told = f"({told},1:1):1"
        self.refuses("0=" + told)

    def test_one_left_out(self):
        self.refuses("0=2:2", "0=31:2", "0=(1:2,3:2):2", "0=(2:2,3:2):2", "0=(1:2,(2:2,4:2):2):2", "0=(1:2,31:2):2")
        for kind in range(1, 31):
            parts = ",".join(f"{other}:1" for other in range(1, 32) if other != kind)
            self.refuses(f"0=({parts}):1")

    def test_no_number(self):
        self.refuses("0=a:2", "0=-1:2", "0=+1:2", "0= 1:2", "0=1 :2", "0=\xb9:2", "0=(1:2,x:2):2", "0=1.0:2")


class Brackets(ReadCase):
    def test_one_part_alone(self):
        self.refuses("0=(1:2):2", "0=((1:2):2):2", "0=((1:2,2:2):2):2", "0=(1:2,(2:2):2):2", "0=((1:2):2,2:2):2")
        self.refuses("0=(((1:2,2:2):2,3:2):2):2", "0=(1:2,((2:2,3:2):2):2):2", "0=((1:2,2:2,3:2):2):2")

    def test_no_part(self):
        self.refuses("0=()", "0=():2", "0=(1:2,():2):2", "0=(():2,1:2):2", "0=(1:2,2:2,():2):2", "0=(,):2", "0=(:2):2")

    def test_a_comma_too_many(self):
        self.refuses("0=(,1:2,2:2):2", "0=(1:2,,2:2):2", "0=(1:2,2:2,):2", "0=(1:2,):2", "0=(,1:2):2")
        self.refuses("0=,1:2", "0=1:2,", "0=(1:2,2:2),:2", "0=(1:2,2:2):,2", "0=(1,:2,2:2):2", "0=(1:2,2:2):2,")

    def test_a_comma_too_few(self):
        self.refuses("0=(1:22:2):2", "0=(1:2 2:2):2", "0=(1:2(2:2,3:2):2):2", "0=((1:2,2:2):23:2):2")
        self.refuses("0=(1:22:2,3:2):2")
        self.refuses("0=(1:2:2:2):2", "0=((1:2,2:2):2(3:2,4:2):2):2", "0=(1:2;2:2):2")

    def test_not_closed(self):
        self.refuses("0=(", "0=(1:2", "0=(1:2,", "0=(1:2,2:2", "0=(1:2,2:2:2", "0=((1:2,2:2):2", "0=((1:2,2:2):2,3:2")
        self.refuses("0=(1:2,(2:2,3:2):2", "0=((1:2,2:2):2:2", "0=(1:2,(2:2,3:2:2):2")

    def test_one_too_many(self):
        self.refuses("0=1:2)", "0=(1:2,2:2)):2", "0=(1:2,2:2):2)", "0=(1:2,2:2):2):2", "0=)1:2", "0=)", "0=)1:2,2:2(:2")
        self.refuses("0=(1:2,2:2)):2):2", "0=(1:2),2:2):2", "0=(1:2):2,2:2):2")

    def test_other_brackets(self):
        self.refuses("0=[1:2,2:2]:2", "0={1:2,2:2}:2", "0=<1:2,2:2>:2", "0=(1:2,2:2]:2")


class EachByte(ReadCase):
    def test_put_in_anywhere(self):
        data = list(EXAMPLE_TEXT.encode())
        for at in range(len(data) + 1):
            for byte in range(256):
                if chr(byte) not in SIGNS:
                    self.assertEqual(read(data[:at] + [byte] + data[at:]), [-1], (at, byte))

    def test_in_the_place_of_any(self):
        data = list(EXAMPLE_TEXT.encode())
        for at in range(len(data)):
            for byte in range(256):
                if chr(byte) not in SIGNS:
                    self.assertEqual(read(data[:at] + [byte] + data[at + 1:]), [-1], (at, byte))


class ByDefinition(ReadCase):
    def agrees(self, told):
        given = read_text(told)
        self.assertEqual(given, read_by_definition(told), told)
        return given != [-1]

    def test_all_short_texts(self):
        for length in range(6):
            for signs in itertools.product("012:,()=", repeat=length):
                self.agrees("0=" + "".join(signs))

    def test_all_shortest_texts(self):
        for length in range(5):
            for signs in itertools.product("013:,()= ", repeat=length):
                self.agrees("".join(signs))

    def test_one_sign_other_than_it_was(self):
        seen = []
        for told in (EXAMPLE_TEXT, "0=((2:10,1:0):2,3:4,(5:1,4:2147483647):0):20", "0=12:0"):
            for at in range(len(told) + 1):
                seen.append(self.agrees(told[:at] + told[at + 1:]))
                for sign in SIGNS:
                    seen.append(self.agrees(told[:at] + sign + told[at:]))
                    seen.append(self.agrees(told[:at] + sign + told[at + 1:]))
        self.assertGreater(seen.count(True), 100)
        self.assertGreater(seen.count(False), 100)

    def test_two_signs_in_each_others_place(self):
        for told in (EXAMPLE_TEXT, "0=((2:10,1:0):2,3:4):20"):
            for first, last in itertools.combinations(range(len(told)), 2):
                turned = list(told)
                turned[first], turned[last] = told[last], told[first]
                self.agrees("".join(turned))

    def test_two_signs_left_out(self):
        for first, last in itertools.combinations(range(len(EXAMPLE_TEXT)), 2):
            self.agrees(EXAMPLE_TEXT[:first] + EXAMPLE_TEXT[first + 1:last] + EXAMPLE_TEXT[last + 1:])


class ManyTrees(ReadCase):
    def test_the_distances_that_the_text_is_made_from(self):
        for tree in drawn_trees(range(2, 33), 8):
            self.assertEqual(read_text("0=" + written(tree)), answer(halves(tree)))

    def test_parts_in_any_order(self):
        for tree in drawn_trees(range(3, 20), 4):
            for part in parts_within(tree):
                if isinstance(part[0], list):
                    part[0].reverse()
            self.assertEqual(read_text("0=" + written(tree)), answer(halves(tree)))

    def test_what_text_writes(self):
        for n in range(2, 33):
            for rows in (comb(n), grown([11 * i // 7 % i for i in range(1, n)])):
                told = text(n, flat(rows))
                self.assertEqual(read(told[1:]), [n] + [2 * distance for distance in flat(rows)])


class Bytes(unittest.TestCase):
    def test_as_many_as_are_allowed_and_no_tree(self):
        whole = list(EXAMPLE_TEXT.encode())
        for data in ([48] * 4096, [40] * 4096, [48, 61] + [40] * 4094, [41] * 4096, [0] * 4096, [255] * 4096,
                     whole + [32] * (4096 - len(whole)), [48, 61, 49, 58] + [49] * 4092):
            self.assertEqual(len(data), 4096)
            self.assertEqual(read(data), [-1])

    def test_nested_as_deep_as_the_bytes_allow(self):
        self.assertEqual(read_text("(" * 4096), [-1])
        self.assertEqual(read_text("0=" + "(" * 4094), [-1])
        self.assertEqual(read_text("0=" + "(" * 1021 + "1:0" + "):0" * 1021), [-1])
        self.assertEqual(read_text("0=" + "(" * 1020 + "1:0,2:0" + "):0" * 1020), [-1])
        deep = "0=" + "(1:0," * 500 + "1:0" + "):0" * 500
        self.assertEqual(len(deep), 4005)
        self.assertEqual(read_text(deep), [-1])

    def test_more_than_are_allowed(self):
        whole = list(EXAMPLE_TEXT.encode())
        for count in (4097, 4098, 4999, 5000):
            for byte in (0, 32, 40, 48, 49, 255):
                self.assertEqual(read([byte] * count), [-2])
                self.assertEqual(read(whole + [byte] * (count - len(whole))), [-2])
            self.assertEqual(read([48, 61] + [40] * (count - 2)), [-2])


class Interface(Manners, unittest.TestCase):
    call = (read,)
    calls = (
        ({"data": list(EXAMPLE_TEXT.encode())}, [4] + EXAMPLE_ROWS),
        ({"data": [48, 61, 49, 58, 48]}, [2, 0, 0, 0, 0]),
        ({"data": [48, 61, 49, 58, 55]}, [2, 0, 7, 7, 0]),
        ({"data": []}, [-1]),
        ({"data": [48, 61]}, [-1]),
        ({"data": [40] * 4096}, [-1]),
        ({"data": [40] * 4097}, [-2]),
        ({"data": [48] * 5000}, [-2]),
    )


if __name__ == "__main__":
    unittest.main()
