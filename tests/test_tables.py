"""tables: how many matchings of columns, and promise 1's refusals."""

import unittest

from tests.helper import ask, best, cell, cost, counts, kth, least, maybe, name, names, pair, patch, rank, surely
from tests.helper import table, tables

ONE = table(["a"], [])
HUGE = 10 ** 18


class Answered(unittest.TestCase):
    def test_how_many_matchings_of_columns(self):
        expected = {(1, 1): 2, (1, 4): 5, (2, 2): 7, (2, 3): 13, (3, 3): 34, (3, 4): 73, (4, 4): 209}
        for (width, other), matchings in expected.items():
            one = table("abcd"[:width], [])
            two = table("efgh"[:other], [])
            self.assertEqual(ask(tables(one, two), tables(two, one)), [[matchings], [matchings]])

    def test_largest_that_are_taken(self):
        full = table("abcd", [[1, 2, 3, 4]] * 7)
        self.assertEqual(ask(tables(full, ONE), tables(ONE, full), tables(full, full)), [[5], [5], [209]])

    def test_cells_at_their_ends(self):
        for value in [None, -1000000, 1000000, 0, " ", "~", " ~~ ~~  ", "abcdefgh"]:
            with self.subTest(value=value):
                self.assertEqual(ask(tables(table(["a"], [[value]]), ONE)), [[2]])

    def test_names_at_their_ends(self):
        for text in ["a", "z", "a0", "z9", "abcdefgh", "a1234567", "zz09az90"]:
            with self.subTest(text=text):
                self.assertEqual(ask(tables(table([text], []), ONE)), [[2]])

    def test_like_names_in_unlike_tables_are_no_fault(self):
        self.assertEqual(ask(tables(ONE, ONE)), [[2]])


class NotTables(unittest.TestCase):
    def assert_refused(self, numbers):
        for call in [tables(numbers, ONE), tables(ONE, numbers), tables(numbers, numbers)]:
            self.assertEqual(ask(call), [[-1]], numbers)

    def test_no_numbers(self):
        self.assert_refused([])

    def test_too_few_or_too_many_numbers(self):
        whole = table(["a", "bc"], [[1, "xy"], [None, 5]])
        for size in range(len(whole)):
            self.assert_refused(whole[:size])
        self.assert_refused(whole + [0])
        self.assert_refused(whole + [HUGE])
        self.assert_refused(table(["a"], []) + cell(None))

    def test_how_many_columns(self):
        for width in [0, -1, 6, HUGE, -HUGE]:
            self.assert_refused([width] + name("a") + [0])
        self.assert_refused([0, 0])
        self.assert_refused(table("abcdef", []))

    def test_how_many_rows(self):
        for height in [-1, 13, HUGE, -HUGE]:
            self.assert_refused([1] + name("a") + [height])
        self.assert_refused(table(["a"], [[None]] * 13))

    def test_like_names(self):
        self.assert_refused(table(["a", "a"], []))
        self.assert_refused(table(["ab", "c", "ab"], [[1, 2, 3]]))

    def test_names_that_begin_otherwise(self):
        for text in ["0", "9a", "1abcdefg"]:
            self.assert_refused(table([text], []))

    def test_bytes_outside_names(self):
        for text in ["A", "aZ", "a_", "a ", "a`", "a{", "a/", "a:", "a-b"]:
            self.assert_refused(table([text], []))
        self.assert_refused([1, 1, HUGE, 0])
        self.assert_refused([1, 1, -97, 0])

    def test_how_long_names_are(self):
        self.assert_refused(table([""], []))
        self.assert_refused(table(["abcdefghi"], []))
        self.assert_refused([1, -1, 97, 0])

    def test_cells(self):
        self.assert_refused(table(["a"], [[-1000001]]))
        self.assert_refused(table(["a"], [[1000001]]))
        self.assert_refused(table(["a"], [[""]]))
        self.assert_refused(table(["a"], [["abcdefghi"]]))
        self.assert_refused(table(["a"], [["\x1f"]]))
        self.assert_refused(table(["a"], [["a\x7f"]]))
        self.assert_refused([1, 1, 97, 1, 3])
        self.assert_refused([1, 1, 97, 1, -1])
        self.assert_refused([1, 1, 97, 1, 3, 1])


class TooLarge(unittest.TestCase):
    def test_more_than_is_taken(self):
        wide = table("abcde", [])
        high = table(["a"], [[None]] * 8)
        both = table("abcde", [[1, 2, 3, 4, 5]] * 12)
        for numbers in [wide, high, both, table(["a"], [["x"]] * 12)]:
            for call in [tables(numbers, ONE), tables(ONE, numbers), tables(numbers, numbers)]:
                self.assertEqual(ask(call), [[-6]])

    def test_not_a_table_comes_first(self):
        wide = table("abcde", [])
        high = table(["a"], [[None]] * 12)
        for large in [wide, high]:
            self.assertEqual(ask(tables(large, []), tables([], large), tables(large, ONE + [0])), [[-1]] * 3)


class FromNowOn(unittest.TestCase):
    def test_ahead_of_any_tables(self):
        asked = [least(), kth(0), patch(0), best([]), counts()]
        asked += [pair(0, 0), surely(), maybe(), cost([], []), rank([], []), names()]
        wrong = [kth(-1), patch(-1), best([1]), best([9, 9]), pair(-1, 0), pair(0, HUGE), cost([1], []), cost([], [1])]
        wrong += [rank([9, 9], []), rank([], [9, 9]), rank([1], [1])]
        self.assertEqual(ask(*asked), [[-8]] * 11)
        self.assertEqual(ask(*wrong), [[-8]] * 11)

    def test_refused_tables_are_none(self):
        wide = table("abcde", [])
        self.assertEqual(ask(tables([], []), least(), tables(wide, wide), counts()), [[-1], [-8], [-6], [-8]])
        asked = [pair(0, 0), surely(), maybe(), cost([], []), rank([], []), names()]
        for refused in [tables([], []), tables(wide, ONE), tables(ONE, wide)]:
            self.assertEqual(ask(refused, *asked)[1:], [[-8]] * 6)

    def test_refused_tables_change_nothing(self):
        old = table("ab", [[1, "x"], [2, "y"]])
        new = table("ca", [["x", 1], ["z", 2]])
        other = table("q", [[5]])
        asked = [least(), kth(0), patch(0), best([0, 1]), counts(), pair(0, 1), surely(), maybe(), names()]
        asked += [cost([1, 0], [0, 1]), rank([1, 0, 0, 1], [0, 0, 1, 1])]
        whole = ask(tables(old, new), *asked)[1:]
        for refused in [tables(other, []), tables([], other), tables(other, table("abcde", []))]:
            told = ask(tables(old, new), refused, *asked)
            self.assertLess(told[1][0], 0)
            self.assertEqual(told[2:], whole)

    def test_later_tables_stand_for_earlier_ones(self):
        one = table(["a"], [[1]])
        two = table(["b"], [[2]])
        told = ask(tables(one, one), least(), tables(one, two), least(), tables(two, two), least())
        self.assertEqual(told[1], [0, 1, 1, 1, 0, 0, 1, 0, 0])
        self.assertEqual(told[3], [3, 1, 1, 1, 0, 0, 1, 0, 0])
        self.assertEqual(told[5], told[1])

    def test_later_tables_stand_for_earlier_ones_in_each_call(self):
        one = table("ab", [[1, 2], [3, 4]])
        two = table("bca", [[2, 1, 7]])
        asked = [pair(1, 0), surely(), maybe(), cost([0, 0], [1, 0]), rank([1, 0, 0, 2], [0, 0]), names()]
        told = ask(tables(one, one), *(asked + [tables(one, two)] + asked))
        self.assertEqual(told[1:7], ask(tables(one, one), *asked)[1:])
        self.assertEqual(told[8:], ask(tables(one, two), *asked)[1:])
        self.assertNotEqual(told[1:7], told[8:])


if __name__ == "__main__":
    unittest.main()
