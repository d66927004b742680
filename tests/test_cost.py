"""cost, rank and names: what a given matching costs, its place among the least ones, and the one by names."""

import unittest

from tests.helper import ask, best, cost, kth, least, names, rank, table, tables

HUGE = 10 ** 18

# Of tables with 3 columns, and with 3 old and 2 new rows.
NOT_COLUMN_PAIRS = [
    [0], [0, 0, 1], [0, 0, 1, 1, 2],
    [0, 0, 0, 1], [0, 0, 1, 0], [0, 0, 0, 0],
    [1, 1, 0, 0], [0, 2, 1, 1],
    [3, 0], [0, 3], [-1, 0], [0, -1], [0, 0, 1, 3], [0, 0, 3, 1],
    [HUGE, 0], [0, HUGE], [-HUGE, 0], [0, -HUGE],
    [0, 0, 1, 1, 2, 2, 0, 3], [0] * 20, [0] * 19,
]
NOT_ROW_PAIRS = [
    [0], [0, 0, 1], [0, 0, 1, 1, 2],
    [0, 0, 0, 1], [0, 0, 1, 0], [0, 0, 0, 0],
    [1, 1, 0, 0], [0, 1, 1, 0], [1, 0, 0, 1],
    [3, 0], [0, 2], [-1, 0], [0, -1], [0, 0, 1, 2], [0, 0, 3, 1], [0, 0, 1, 1, 2, 2],
    [HUGE, 0], [0, HUGE], [-HUGE, 0], [0, -HUGE], [0, 0, HUGE, 1], [0, 0, 1, HUGE],
    [0] * 30, [0] * 29,
]


class Cost(unittest.TestCase):
    def answer(self, old, new, columns, rows):
        return ask(tables(old, new), cost(columns, rows))[1]

    def test_alike_tables(self):
        one = table("ab", [[1, 2], [3, 4]])
        self.assertEqual(self.answer(one, one, [0, 0, 1, 1], [0, 0, 1, 1]), [0, 0, 0])

    def test_columns(self):
        old = table("abcd", [])
        for columns, right in [
            ([0, 0, 1, 1, 2, 2, 3, 3], 0), ([3, 0, 2, 1, 1, 2, 0, 3], 11), ([1, 0, 0, 1, 2, 2, 3, 3], 5),
            ([1, 1], 24), ([0, 3], 26), ([3, 0, 0, 3], 21), ([], 32),
        ]:
            self.assertEqual(self.answer(old, old, columns, []), [right, 0, 0])

    def test_lone_rows(self):
        old = table("a", [[1]] * 3)
        new = table("a", [[1]] * 2)
        self.assertEqual(self.answer(old, new, [0, 0], []), [0, 15, 0])
        self.assertEqual(self.answer(old, new, [0, 0], [2, 0]), [0, 9, 0])
        self.assertEqual(self.answer(old, new, [0, 0], [0, 0, 2, 1]), [0, 3, 0])
        self.assertEqual(self.answer(new, old, [0, 0], [0, 0, 1, 2]), [0, 3, 0])

    def test_cells_in_matched_rows(self):
        old = table("ab", [[1, None], [2, "x"]])
        new = table("ab", [[None, 0], [2, "x"]])
        both = [0, 0, 1, 1]
        self.assertEqual(self.answer(old, new, both, [0, 0, 1, 1]), [0, 0, 2])
        self.assertEqual(self.answer(old, new, both, [1, 1]), [0, 6, 0])
        self.assertEqual(self.answer(old, new, both, [0, 1]), [0, 6, 2])
        # Lone columns: their cells that aren't empty, of either side, in matched rows alone.
        self.assertEqual(self.answer(old, new, [], [0, 0]), [16, 6, 2])
        self.assertEqual(self.answer(old, new, [], [1, 0]), [16, 6, 3])
        self.assertEqual(self.answer(old, new, [], [0, 1]), [16, 6, 3])
        self.assertEqual(self.answer(old, new, [], [0, 0, 1, 1]), [16, 0, 6])
        self.assertEqual(self.answer(old, new, [0, 0], [0, 0, 1, 1]), [8, 0, 4])
        self.assertEqual(self.answer(old, new, [0, 1], [1, 0]), [10, 6, 2])

    def test_empty_lists(self):
        self.assertEqual(self.answer(table("a", []), table("a", []), [], []), [8, 0, 0])
        self.assertEqual(self.answer(table("ab", [[1, 2]]), table("c", [[1], [1]]), [], []), [12, 9, 0])

    def test_tables_without_rows(self):
        some = table("a", [[1], [2]])
        none = table("a", [])
        self.assertEqual(self.answer(some, none, [0, 0], []), [0, 6, 0])
        self.assertEqual(self.answer(none, some, [0, 0], []), [0, 6, 0])
        self.assertEqual(self.answer(some, none, [0, 0], [0, 0]), [-3])
        self.assertEqual(self.answer(none, some, [0, 0], [0, 0]), [-3])
        self.assertEqual(self.answer(none, none, [0, 0], [0, 0]), [-3])

    def test_largest_tables(self):
        full = table("abcd", [[1, 2, 3, 4]] * 7)
        rows = [row for row in range(7) for side in range(2)]
        self.assertEqual(self.answer(full, full, [3, 0, 2, 1, 1, 2, 0, 3], rows), [11, 0, 28])
        self.assertEqual(self.answer(full, full, [], rows), [32, 0, 56])
        self.assertEqual(self.answer(full, full, [0, 0], [6, 0]), [24, 36, 6])
        self.assertEqual(self.answer(full, full, [0, 0], [0, 6]), [24, 36, 6])


class Rank(unittest.TestCase):
    def answer(self, old, new, columns, rows):
        return ask(tables(old, new), rank(columns, rows))[1]

    def assert_kth_and_rank_agree(self, old, new):
        matchings = ask(tables(old, new), least())[1][2]
        for place in range(matchings):
            told = ask(tables(old, new), kth(place))[1]
            end = 2 + 2 * told[1]
            self.assertEqual(self.answer(old, new, told[2:end], told[end + 1:]), [1, place])
        self.assertEqual(ask(tables(old, new), kth(matchings))[1], [0])
        return matchings

    def test_the_only_least_matching(self):
        one = table("ab", [[1, 2], [3, 4]])
        self.assertEqual(self.answer(one, one, [0, 0, 1, 1], [0, 0, 1, 1]), [1, 0])
        self.assertEqual(self.answer(table("a", []), table("b", []), [0, 0], []), [1, 0])

    def test_least_columns_with_other_rows(self):
        one = table("ab", [[1, 2], [3, 4]])
        for rows in [[], [0, 0], [1, 1], [0, 1], [1, 0]]:
            self.assertEqual(self.answer(one, one, [0, 0, 1, 1], rows), [0])

    def test_other_columns_with_their_least_rows(self):
        one = table("ab", [[None, None]])
        for columns in [[], [0, 0], [1, 1], [0, 1], [1, 0], [1, 0, 0, 1]]:
            self.assertEqual(self.answer(one, one, columns, [0, 0]), [0])
        self.assertEqual(self.answer(table("a", []), table("a", []), [], []), [0])

    def test_one_more_than_least(self):
        # Crossed columns cost 5, straight ones have six unlike cells: one more.
        old = table("ab", [[1, 2]] * 3)
        new = table("ab", [[2, 1]] * 3)
        rows = [0, 0, 1, 1, 2, 2]
        self.assertEqual(self.answer(old, new, [1, 0, 0, 1], rows), [1, 0])
        self.assertEqual(self.answer(old, new, [0, 0, 1, 1], rows), [0])

    def test_places_by_rows(self):
        old = table("a", [[None]] * 2)
        new = table("a", [[None]] * 3)
        for place, rows in enumerate([[0, 0, 1, 1], [0, 0, 1, 2], [0, 1, 1, 2]]):
            self.assertEqual(self.answer(old, new, [0, 0], rows), [1, place])
        for place, rows in enumerate([[0, 0, 1, 1], [0, 0, 2, 1], [1, 0, 2, 1]]):
            self.assertEqual(self.answer(new, old, [0, 0], rows), [1, place])

    def test_lone_rows_as_cheap_as_pairs(self):
        # The rows have changed places: two pairs with three unlike cells each cost as much as two lone rows.
        old = table("abc", [[1, 2, 3], [4, 5, 6]])
        new = table("abc", [[4, 5, 6], [1, 2, 3]])
        columns = [0, 0, 1, 1, 2, 2]
        for place, rows in enumerate([[0, 0, 1, 1], [0, 1], [1, 0]]):
            self.assertEqual(self.answer(old, new, columns, rows), [1, place])
            self.assertEqual(ask(tables(old, new), kth(place))[1], [1, 3] + columns + [len(rows) // 2] + rows)
        for rows in [[], [0, 0], [1, 1]]:
            self.assertEqual(self.answer(old, new, columns, rows), [0])

    def test_columns_come_ahead_of_rows(self):
        old = table("ab", [[None, None]])
        new = table("c", [[None]] * 2)
        matchings = [([0, 0], [0, 0]), ([0, 0], [0, 1]), ([1, 0], [0, 0]), ([1, 0], [0, 1])]
        for place, matching in enumerate(matchings):
            self.assertEqual(self.answer(old, new, matching[0], matching[1]), [1, place])
        self.assertEqual(self.answer(old, new, [0, 0], []), [0])
        self.assertEqual(self.answer(old, new, [], [0, 1]), [0])

    def test_earlier_columns_count_by_their_own_rows(self):
        # Beside the first matching of columns the old row may be either of the new ones, beside the second one alone.
        old = table("ab", [[1, None]])
        new = table("c", [[None], [2]])
        for place, matching in enumerate([([0, 0], [0, 0]), ([0, 0], [0, 1]), ([1, 0], [0, 0])]):
            self.assertEqual(self.answer(old, new, matching[0], matching[1]), [1, place])
        self.assertEqual(self.answer(old, new, [1, 0], [0, 1]), [0])

    def test_places_that_kth_gives_back(self):
        self.assertEqual(self.assert_kth_and_rank_agree(table("a", [[None]] * 7), table("a", [[None]] * 3)), 35)
        self.assertEqual(self.assert_kth_and_rank_agree(table("ab", []), table("cde", [])), 3)
        two = table("ab", [[None, None]] * 3)
        self.assertEqual(self.assert_kth_and_rank_agree(two, table("c", [[None]] * 2)), 6)

    def test_largest_tables(self):
        old = table("abcd", [[None] * 4] * 7)
        new = table("efg", [[None] * 3] * 4)
        # Three of the four old columns, and four of the seven old rows.
        rows = [3, 0, 4, 1, 5, 2, 6, 3]
        columns = [1, 0, 2, 1, 3, 2]
        told = ask(tables(old, new), least(), rank(columns, rows), kth(4 * 35 - 1), kth(4 * 35))[1:]
        self.assertEqual(told[0][1:3], [4, 140])
        self.assertEqual(told[1:], [[1, 139], [1, 3] + columns + [4] + rows, [0]])

    def test_no_name_in_common(self):
        one = table("ab", [[1, 2]])
        self.assertEqual(self.answer(one, table("cd", [[1, 2]]), [0, 0, 1, 1], [0, 0]), [1, 0])
        self.assertEqual(self.answer(one, table("cd", [[1, 2]]), [], [0, 0]), [0])


class WrongLists(unittest.TestCase):
    def setUp(self):
        self.put = tables(table("abc", [[1, 2, 3]] * 3), table("abc", [[1, 2, 3]] * 2))

    def answer(self, columns, rows):
        told = ask(self.put, cost(columns, rows), rank(columns, rows))[1:]
        self.assertEqual(told[0], told[1])
        return told[0]

    def test_not_pairs_of_columns(self):
        for columns in NOT_COLUMN_PAIRS:
            self.assertEqual(self.answer(columns, []), [-2], columns)
            self.assertEqual(self.answer(columns, [0, 0]), [-2], columns)

    def test_not_pairs_of_rows(self):
        for rows in NOT_ROW_PAIRS:
            self.assertEqual(self.answer([], rows), [-3], rows)
            self.assertEqual(self.answer([0, 0, 1, 1, 2, 2], rows), [-3], rows)

    def test_columns_are_looked_at_first(self):
        for columns in NOT_COLUMN_PAIRS:
            for rows in NOT_ROW_PAIRS:
                self.assertEqual(self.answer(columns, rows), [-2])

    def test_rows_of_the_longer_table_are_not_of_the_other(self):
        self.assertEqual(ask(self.put, cost([], [2, 1]), cost([], [1, 2]))[1:], [[24, 9, 6], [-3]])

    def test_columns_of_the_wider_table_are_not_of_the_other(self):
        wide = table("abcd", [])
        slim = table("a", [])
        calls = [cost([3, 0], []), cost([0, 3], []), rank([3, 0], []), rank([0, 3], [])]
        self.assertEqual(ask(tables(wide, slim), *calls)[1:], [[14, 0, 0], [-2], [0], [-2]])
        self.assertEqual(ask(tables(slim, wide), *calls)[1:], [[-2], [14, 0, 0], [-2], [0]])

    def test_refusals_change_nothing(self):
        asked = [least(), cost([0, 0], [0, 0]), rank([0, 0, 1, 1, 2, 2], [0, 0, 2, 1]), names()]
        wrong = [cost([1], []), cost([], [1]), rank([9, 9], []), rank([], [9, 9])]
        told = ask(self.put, *(asked + wrong + asked))[1:]
        self.assertEqual(told[4:8], [[-2], [-3], [-2], [-3]])
        self.assertEqual(told[8:], told[:4])
        self.assertEqual(told[2], [1, 1])


class Names(unittest.TestCase):
    def answer(self, old, new):
        told = ask(tables(old, new), names(), least())[1:]
        self.assertEqual(told[0][0] + told[0][1] - told[0][2], told[1][0])
        return told[0]

    def test_alike_tables(self):
        one = table("ab", [[1, 2]])
        self.assertEqual(self.answer(one, one), [0, 0, 0])
        full = table("abcd", [[1, 2, 3, 4]] * 7)
        self.assertEqual(self.answer(full, full), [0, 0, 0])
        self.assertEqual(self.answer(table("a", []), table("a", [])), [0, 0, 0])

    def test_no_name_in_common(self):
        self.assertEqual(self.answer(table("a", []), table("b", [])), [8, 0, 6])
        self.assertEqual(self.answer(table("ab", []), table("cd", [])), [16, 0, 12])
        # Two cells for the pair of rows, one more than if the columns are matched.
        self.assertEqual(self.answer(table("a", [[1]]), table("b", [[2]])), [8, 2, 7])
        full = table("abcd", [[1, 2, 3, 4]] * 7)
        self.assertEqual(self.answer(full, table("efgh", [[1, 2, 3, 4]] * 7)), [32, 42, 66])

    def test_moved_columns(self):
        self.assertEqual(self.answer(table("ab", []), table("ba", [])), [1, 0, 0])
        self.assertEqual(self.answer(table("abcd", []), table("dcba", [])), [3, 0, 0])

    def test_some_names_in_common(self):
        self.assertEqual(self.answer(table("abc", []), table("xb", [])), [12, 0, 6])
        self.assertEqual(self.answer(table("xb", []), table("abc", [])), [12, 0, 6])
        # c and a are moved past one another, b and x lone; matched they are one more new name.
        self.assertEqual(self.answer(table("abc", []), table("cxa", [])), [9, 0, 5])

    def test_names_are_alike_as_a_whole(self):
        self.assertEqual(self.answer(table(["a"], []), table(["ab"], [])), [8, 0, 6])
        self.assertEqual(self.answer(table(["ab", "a"], []), table(["b", "a"], [])), [8, 0, 6])
        self.assertEqual(self.answer(table(["abcdefgh"], []), table(["abcdefgh"], [])), [0, 0, 0])

    def test_names_that_are_not_the_least(self):
        # Cells say that the names have changed places: two new names and one moved against six cells.
        old = table("ab", [[1, 2]] * 3)
        new = table("ab", [[2, 1]] * 3)
        self.assertEqual(self.answer(old, new), [0, 6, 1])

    def test_rows(self):
        old = table("ab", [[1, 2], [3, 4], [5, None]])
        new = table("b", [[2], [9], [4], [None]])
        # One lone row, and the full cells of the lone column.
        self.assertEqual(self.answer(old, new), [4, 6, 0])
        self.assertEqual(self.answer(table("a", [[1], [2]]), table("a", [])), [0, 6, 0])

    def test_as_best_tells_them(self):
        old = table("abx", [[1, 2, 3], [4, 5, 6]])
        new = table("bya", [[2, 3, 1], [7, 6, 4]])
        told = ask(tables(old, new), best([1, 0, 0, 2]), names(), least())[1:]
        self.assertEqual(told[1][:2], told[0][:2])
        self.assertEqual(told[1][2], told[0][0] + told[0][1] - told[2][0])


if __name__ == "__main__":
    unittest.main()
