"""patch: what the patch of a least matching tells of either side."""

import unittest

from tests.helper import ask, least, patch, table, tables


class Patch(unittest.TestCase):
    def answer(self, old, new, place=0):
        return ask(tables(old, new), patch(place))[1]

    def test_alike_tables(self):
        one = table(["ab", "c1"], [[1, "x"]])
        side = [2, 2, 97, 98, 2, 99, 49, 1, 0, 0]
        self.assertEqual(self.answer(one, one), [1, 2, 0, 0, 1, 1, 1, 0, 0] + side + side)

    def test_no_rows(self):
        self.assertEqual(self.answer(table("a", []), table("b", [])), [1, 1, 0, 0, 0, 1, 1, 97, 0, 0, 0, 1, 1, 98, 0, 0, 0])

    def test_lone_rows_with_all_their_cells(self):
        old = table("ab", [[None, -7], ["xy", 1], [5, None]])
        new = table("ab", [["xy", 1]])
        pairs = [2, 0, 0, 1, 1, 1, 1, 0]
        old_side = [2, 1, 97, 1, 98, 3, 2, 0, 0, 1, -7, 2, 1, 5, 0, 0]
        new_side = [2, 1, 97, 1, 98, 1, 0, 0]
        self.assertEqual(self.answer(old, new), [1] + pairs + old_side + new_side)
        turned = [2, 0, 0, 1, 1, 1, 0, 1]
        self.assertEqual(self.answer(new, old), [1] + turned + new_side + old_side)

    def test_full_cells_of_lone_columns(self):
        old = table("abc", [[1, None, "p"], [2, 0, None]])
        new = table("ac", [[1, "p"], [2, None]])
        pairs = [2, 0, 0, 2, 1, 2, 0, 0, 1, 1]
        old_side = [3, 1, 97, 1, 98, 1, 99, 2, 0, 1, 1, 1, 1, 0]
        new_side = [2, 1, 97, 1, 99, 2, 0, 0]
        self.assertEqual(self.answer(old, new), [1] + pairs + old_side + new_side)
        turned = [2, 0, 0, 1, 2, 2, 0, 0, 1, 1]
        self.assertEqual(self.answer(new, old), [1] + turned + new_side + old_side)

    def test_unlike_cells_on_both_sides_even_if_one_is_empty(self):
        old = table("a", [[None]])
        new = table("a", [[-1000000]])
        sides = [1, 1, 97, 1, 0, 1, 0, 0, 0] + [1, 1, 97, 1, 0, 1, 0, 0, 1, -1000000]
        self.assertEqual(self.answer(old, new), [1, 1, 0, 0, 1, 0, 0] + sides)

    def test_each_side_by_its_own_columns_rising(self):
        # Old columns b, a are new columns 0, 1, and both have changed; the old lone column stands between them.
        old = table("acb", [[1, 8, 2], [3, None, 4], [5, 6, 7]])
        new = table("ba", [[2, 1], [0, None], [7, 5]])
        told = self.answer(old, new)
        pairs = [2, 2, 0, 0, 1, 3, 0, 0, 1, 1, 2, 2]
        old_cells = [4, 0, 1, 1, 8, 1, 0, 1, 3, 1, 2, 1, 4, 2, 1, 1, 6]
        new_cells = [2, 1, 0, 1, 0, 1, 1, 0]
        old_side = [3, 1, 97, 1, 99, 1, 98, 3, 0] + old_cells
        new_side = [2, 1, 98, 1, 97, 3, 0] + new_cells
        self.assertEqual(told, [1] + pairs + old_side + new_side)

    def test_by_place(self):
        old = table("a", [[None]] * 2)
        new = table("a", [[None]])
        told = ask(tables(old, new), least(), patch(0), patch(1), patch(2), patch(10 ** 18))[1:]
        self.assertEqual(told[0][2], 2)
        self.assertEqual(told[1], [1, 1, 0, 0, 1, 0, 0, 1, 1, 97, 2, 1, 1, 0, 0, 1, 1, 97, 1, 0, 0])
        self.assertEqual(told[2], [1, 1, 0, 0, 1, 1, 0, 1, 1, 97, 2, 1, 0, 0, 0, 1, 1, 97, 1, 0, 0])
        self.assertEqual(told[3:], [[0], [0]])

    def test_no_such_place(self):
        one = table("a", [])
        self.assertEqual(ask(tables(one, one), patch(-1), patch(-10 ** 18))[1:], [[-4], [-4]])


if __name__ == "__main__":
    unittest.main()
