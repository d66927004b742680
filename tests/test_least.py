"""least and kth: the least matchings, counted, and told in their order."""

import unittest

from tests.helper import ask, kth, least, table, tables


class Least(unittest.TestCase):
    def answer(self, old, new):
        return ask(tables(old, new), least())[1]

    def test_alike_tables_cost_nothing(self):
        one = table("ab", [[1, "x"], [None, 7]])
        self.assertEqual(self.answer(one, one), [0, 1, 1, 2, 0, 0, 1, 1, 2, 0, 0, 1, 1])

    def test_no_rows(self):
        self.assertEqual(self.answer(table("a", []), table("a", [])), [0, 1, 1, 1, 0, 0, 0])
        self.assertEqual(self.answer(table("a", [[1]]), table("a", [])), [3, 1, 1, 1, 0, 0, 0])
        self.assertEqual(self.answer(table("a", []), table("a", [[1], [2]])), [6, 1, 1, 1, 0, 0, 0])

    def test_a_new_name_costs_two(self):
        self.assertEqual(self.answer(table("a", []), table("b", []))[0], 2)
        self.assertEqual(self.answer(table(["a"], []), table(["ab"], []))[0], 2)

    def test_a_lone_column_costs_four_and_its_full_cells(self):
        old = table("ab", [[1, None], [2, 5], [3, "x"]])
        new = table("a", [[1], [2], [3]])
        self.assertEqual(self.answer(old, new)[0], 4 + 2)
        self.assertEqual(self.answer(new, old)[0], 4 + 2)

    def test_zero_is_not_empty(self):
        old = table("ab", [[1, 0]])
        new = table("a", [[1]])
        self.assertEqual(self.answer(old, new)[0], 4 + 1)
        self.assertEqual(self.answer(new, old)[0], 4 + 1)

    def test_moved_columns_cost_those_outside_a_longest_rising_part(self):
        row = [1, "x", 2, "y"]
        old = table("abcd", [row])
        for order, cost in [("abcd", 0), ("bacd", 1), ("bcda", 1), ("badc", 2), ("cdab", 2), ("dcba", 3)]:
            new = table(order, [[row["abcd".index(text)] for text in order]])
            self.assertEqual(self.answer(old, new)[:3], [cost, 1, 1], order)

    def test_a_rising_part_may_leave_out_numbers(self):
        # Old columns 0, 2, 3 are told in rising order with a gap: nothing has moved.
        told = self.answer(table("abcd", []), table("acd", []))
        self.assertEqual(told, [4, 1, 1, 3, 0, 0, 2, 1, 3, 2, 0])

    def test_unlike_cells_cost_one_each(self):
        kinds = [None, 1, 49, "1", "11", " ", -1]
        for one in kinds:
            for other in kinds:
                told = self.answer(table("a", [[one]]), table("a", [[other]]))
                self.assertEqual(told, [0 if one == other else 1, 1, 1, 1, 0, 0, 1, 0, 0])

    def test_counted_over_columns_and_rows(self):
        # Two new names and a lone row cost 7; a moved column would cost 1 more. The rows match in 3 ways.
        old = table("ab", [[None, None]] * 3)
        new = table("cd", [[None, None]] * 2)
        self.assertEqual(self.answer(old, new), [7, 1, 3, 2, 0, 0, 1, 1, 2, 0, 0, 1, 1])
        # Which old column is the lone one makes no odds.
        self.assertEqual(self.answer(old, table("c", [[None]] * 3))[:3], [6, 2, 2])

    def test_largest_tables(self):
        full = table("abcd", [[1, 2, 3, 4]] * 7)
        told = self.answer(full, full)
        self.assertEqual(told[:3], [0, 1, 1])
        self.assertEqual(told[3:], [4, 0, 0, 1, 1, 2, 2, 3, 3, 7] + [row for row in range(7) for side in range(2)])


class Kth(unittest.TestCase):
    def test_row_matchings_by_old_rows_first(self):
        old = table("a", [[None]] * 2)
        new = table("a", [[None]] * 3)
        places = [kth(place) for place in range(4)]
        rows = [[0, 0, 1, 1], [0, 0, 1, 2], [0, 1, 1, 2]]
        self.assertEqual(ask(tables(old, new), *places)[1:], [[1, 1, 0, 0, 2] + one for one in rows] + [[0]])
        rows = [[0, 0, 1, 1], [0, 0, 2, 1], [1, 0, 2, 1]]
        self.assertEqual(ask(tables(new, old), *places)[1:], [[1, 1, 0, 0, 2] + one for one in rows] + [[0]])

    def test_column_matchings_by_new_columns_first(self):
        old = table("ab", [])
        new = table("cde", [])
        # In every one two of the new columns are matched, rising.
        columns = [[0, 0, 1, 1], [0, 0, 1, 2], [0, 1, 1, 2]]
        told = ask(tables(old, new), least(), kth(0), kth(1), kth(2), kth(3))[1:]
        self.assertEqual(told[0], [8, 3, 3, 2, 0, 0, 1, 1, 0])
        self.assertEqual(told[1:], [[1, 2] + one + [0] for one in columns] + [[0]])
        columns = [[0, 0, 1, 1], [0, 0, 2, 1], [1, 0, 2, 1]]
        told = ask(tables(new, old), kth(0), kth(1), kth(2), kth(3))[1:]
        self.assertEqual(told, [[1, 2] + one + [0] for one in columns] + [[0]])

    def test_columns_come_ahead_of_rows(self):
        old = table("ab", [[None, None]])
        new = table("c", [[None]] * 2)
        matchings = [[1, 0, 0, 1, 0, 0], [1, 0, 0, 1, 0, 1], [1, 1, 0, 1, 0, 0], [1, 1, 0, 1, 0, 1]]
        told = ask(tables(old, new), least(), *[kth(place) for place in range(5)])[1:]
        self.assertEqual(told[0], [9, 2, 4] + matchings[0])
        self.assertEqual(told[1:], [[1] + one for one in matchings] + [[0]])

    def test_last_of_many(self):
        old = table("a", [[None]] * 7)
        new = table("a", [[None]] * 3)
        told = ask(tables(old, new), least(), kth(0), kth(34), kth(35), kth(10 ** 18))[1:]
        self.assertEqual(told[0][:3], [12, 1, 35])
        self.assertEqual(told[1:3], [[1, 1, 0, 0, 3, 0, 0, 1, 1, 2, 2], [1, 1, 0, 0, 3, 4, 0, 5, 1, 6, 2]])
        self.assertEqual(told[3:], [[0], [0]])

    def test_no_such_place(self):
        one = table("a", [])
        self.assertEqual(ask(tables(one, one), kth(-1), kth(-10 ** 18), kth(0)), [[2], [-4], [-4], [1, 1, 0, 0, 0]])


if __name__ == "__main__":
    unittest.main()
