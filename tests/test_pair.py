"""pair, surely and maybe: what pairs of columns cost, and which are in least matchings."""

import unittest

from tests.helper import ask, least, maybe, names, pair, surely, table, tables

HUGE = 10 ** 18


class Pair(unittest.TestCase):
    def answer(self, old, new, old_column, new_column):
        return ask(tables(old, new), pair(old_column, new_column))[1]

    def test_one_column(self):
        self.assertEqual(self.answer(table("a", []), table("a", []), 0, 0), [0, 8])
        self.assertEqual(self.answer(table("a", []), table("b", []), 0, 0), [2, 8])

    def test_rows_count_too(self):
        one = table("a", [[1], [2]])
        # Without the pair its cells are told of both sides: 2 for each pair of rows.
        self.assertEqual(self.answer(one, one, 0, 0), [0, 12])
        self.assertEqual(self.answer(one, table("a", [[1]]), 0, 0), [3, 13])
        wide = table("abcd", [[1, 2, 3, 4]])
        self.assertEqual(self.answer(table("a", [[5]]), wide, 0, 0), [16, 18])

    def test_a_pair_of_least_matchings(self):
        one = table("ab", [[1, 2]])
        # Without it the two columns are crossed: two new names, one moved, two cells.
        self.assertEqual(self.answer(one, one, 0, 0), [0, 7])
        self.assertEqual(self.answer(one, one, 1, 1), [0, 7])

    def test_a_pair_that_no_least_matching_has(self):
        one = table("ab", [[1, 2]])
        self.assertEqual(self.answer(one, one, 0, 1), [7, 0])
        self.assertEqual(self.answer(one, one, 1, 0), [7, 0])
        self.assertEqual(self.answer(table("abcd", []), table("a", []), 3, 0), [14, 12])

    def test_a_pair_of_some_least_matchings(self):
        old = table("ab", [])
        new = table("c", [])
        self.assertEqual(ask(tables(old, new), pair(0, 0), pair(1, 0))[1:], [[6, 6], [6, 6]])

    def test_old_column_comes_first(self):
        old = table("ab", [])
        new = table("cda", [])
        # a is a: one lone column, one new name, one moved. Without it two new names and the lone column.
        self.assertEqual(self.answer(old, new, 0, 2), [7, 8])
        self.assertEqual(ask(tables(old, new), pair(2, 0))[1], [-4])

    def test_largest_tables(self):
        # Two columns that change places: two new names, one or two moved, two unlike cells in each row.
        full = table("abcd", [[1, 2, 3, 4]] * 7)
        self.assertEqual(ask(tables(full, full), pair(3, 3), pair(0, 3))[1:], [[0, 19], [20, 0]])

    def test_no_such_column(self):
        wide = table("abcd", [])
        slim = table("ab", [[1, 2]])
        wrong = [-1, 4, 5, HUGE, -HUGE]
        for number in wrong:
            calls = [pair(number, 0), pair(0, number), pair(number, number), pair(3, number), pair(number, 1)]
            self.assertEqual(ask(tables(wide, slim), *calls)[1:], [[-4]] * 5, number)
            self.assertEqual(ask(tables(slim, wide), *calls)[1:], [[-4]] * 5, number)

    def test_columns_of_the_wider_table_are_not_of_the_other(self):
        wide = table("abcd", [])
        slim = table("ab", [])
        told = ask(tables(wide, slim), pair(3, 1), pair(2, 0), pair(0, 2), pair(1, 3), pair(2, 2))[1:]
        self.assertEqual(told, [[10, 8], [11, 8], [-4], [-4], [-4]])
        told = ask(tables(slim, wide), pair(1, 3), pair(0, 2), pair(2, 0), pair(3, 1), pair(2, 2))[1:]
        self.assertEqual(told, [[10, 8], [11, 8], [-4], [-4], [-4]])

    def test_refusal_changes_nothing(self):
        one = table("ab", [[1, 2]])
        told = ask(tables(one, one), least(), pair(0, 1), pair(2, 0), pair(0, 2), least(), pair(0, 1), names())
        self.assertEqual(told[3:5], [[-4], [-4]])
        self.assertEqual(told[5:7], told[1:3])


class SurelyAndMaybe(unittest.TestCase):
    def answers(self, old, new):
        return ask(tables(old, new), surely(), maybe())[1:]

    def test_one_column(self):
        self.assertEqual(self.answers(table("a", []), table("a", [])), [[1, 0, 0]] * 2)
        self.assertEqual(self.answers(table("a", [[1]]), table("b", [[2], [3]])), [[1, 0, 0]] * 2)

    def test_alike_tables(self):
        one = table("abc", [[1, "x", None]])
        self.assertEqual(self.answers(one, one), [[3, 0, 0, 1, 1, 2, 2]] * 2)
        full = table("abcd", [[1, 2, 3, 4]] * 7)
        self.assertEqual(self.answers(full, full), [[4, 0, 0, 1, 1, 2, 2, 3, 3]] * 2)

    def test_crossed_columns_stand_by_the_new_ones(self):
        self.assertEqual(self.answers(table("ab", []), table("ba", [])), [[2, 1, 0, 0, 1]] * 2)

    def test_none_is_sure(self):
        self.assertEqual(self.answers(table("ab", []), table("c", [])), [[0], [2, 0, 0, 1, 0]])
        self.assertEqual(self.answers(table("c", []), table("ab", [])), [[0], [2, 0, 0, 0, 1]])

    def test_some_are_sure(self):
        told = self.answers(table("xab", []), table("xc", []))
        self.assertEqual(told, [[1, 0, 0], [3, 0, 0, 1, 1, 2, 1]])
        told = self.answers(table("abx", []), table("cx", []))
        self.assertEqual(told, [[1, 2, 1], [3, 0, 0, 1, 0, 2, 1]])

    def test_by_new_columns_then_by_old_ones(self):
        two = table("ab", [])
        three = table("cde", [])
        self.assertEqual(self.answers(two, three), [[0], [4, 0, 0, 0, 1, 1, 1, 1, 2]])
        self.assertEqual(self.answers(three, two), [[0], [4, 0, 0, 1, 0, 1, 1, 2, 1]])

    def test_a_pair_of_all_but_one_is_not_sure(self):
        # Old columns 1 2, 0 2 or 0 1 are matched: each is in two of three.
        told = ask(tables(table("abc", []), table("de", [])), least(), surely(), maybe())[1:]
        self.assertEqual(told[0][:3], [8, 3, 3])
        self.assertEqual(told[1:], [[0], [4, 0, 0, 1, 0, 1, 1, 2, 1]])

    def test_least_matchings_that_differ_by_rows_alone(self):
        old = table("ab", [[None, None]] * 3)
        new = table("ca", [[None, None]] * 2)
        told = ask(tables(old, new), least(), surely(), maybe())[1:]
        self.assertEqual(told[0][1:3], [1, 3])
        self.assertEqual(told[1:], [[2, 1, 0, 0, 1]] * 2)

    def test_cells_make_sure(self):
        # By names alone either old column may be the new one; the rows tell which.
        old = table("ab", [[1, 2]])
        self.assertEqual(self.answers(old, table("c", [[2]])), [[1, 1, 0]] * 2)
        self.assertEqual(self.answers(old, table("c", [[1]])), [[1, 0, 0]] * 2)


if __name__ == "__main__":
    unittest.main()
