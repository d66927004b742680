"""best and counts: what given pairs, and given numbers of pairs, cost least."""

import unittest

from tests.helper import ask, best, counts, least, table, tables

HUGE = 10 ** 18


class Best(unittest.TestCase):
    def answer(self, old, new, pairs):
        return ask(tables(old, new), best(pairs))[1]

    def test_no_pairs(self):
        old = table("abc", [[1, 2, 3]])
        # A pair of rows costs 6 here, just like its two rows left lone.
        self.assertEqual(self.answer(old, old, []), [24, 6, 2])
        self.assertEqual(self.answer(table("abcd", [[1, 2, 3, 4]]), old, []), [28, 6, 1])
        self.assertEqual(self.answer(table("ab", [[1, 2]]), old, []), [20, 5, 1])
        self.assertEqual(self.answer(table("a", []), table("a", []), []), [8, 0, 1])

    def test_pairs_need_not_be_least(self):
        one = table("ab", [[1, 2], [3, 4]])
        self.assertEqual(self.answer(one, one, [0, 0, 1, 1]), [0, 0, 1])
        self.assertEqual(self.answer(one, one, [1, 0, 0, 1]), [5, 4, 1])
        self.assertEqual(self.answer(one, one, [0, 1]), [10, 6, 1])

    def test_how_many_matchings_of_rows(self):
        old = table("a", [[1], [1], [1]])
        new = table("a", [[1], [1]])
        self.assertEqual(self.answer(old, new, [0, 0]), [0, 3, 3])
        # Two rows that cost 3 each if they're lone: to pair both with others costs 1 each and leaves one lone.
        self.assertEqual(self.answer(table("a", [[1], [2]]), table("a", [[2]]), [0, 0]), [0, 3, 1])

    def test_crossed_pairs_in_the_order_of_new_columns(self):
        one = table("abcd", [])
        self.assertEqual(self.answer(one, one, [3, 0, 2, 1, 1, 2, 0, 3]), [11, 0, 1])
        self.assertEqual(self.answer(one, one, [3, 1, 0, 2, 1, 3]), [15, 0, 1])

    def test_pairs_that_are_not_told_as_pairs_are(self):
        one = table("abc", [[1, 2, 3]])
        wrong = [
            [0], [0, 0, 1], [0, 0, 1, 1, 2],
            [0, 0, 0, 1], [0, 0, 1, 0], [0, 0, 0, 0],
            [1, 1, 0, 0], [0, 2, 1, 1],
            [3, 0], [0, 3], [-1, 0], [0, -1], [0, 0, 1, 3], [0, 0, 3, 1],
            [HUGE, 0], [0, HUGE], [-HUGE, 0], [0, -HUGE],
            [0, 0, 1, 1, 2, 2, 0, 3], [0] * 20, [0] * 19,
        ]
        told = ask(tables(one, one), *[best(pairs) for pairs in wrong[:19]])[1:]
        told += ask(tables(one, one), *[best(pairs) for pairs in wrong[19:]])[1:]
        for pairs, answer in zip(wrong, told, strict=True):
            self.assertEqual(answer, [-2], pairs)

    def test_numbers_of_the_wider_table_are_not_of_the_other(self):
        wide = table("abcd", [])
        slim = table("a", [])
        self.assertEqual(ask(tables(wide, slim), best([3, 0]), best([0, 3]))[1:], [[14, 0, 1], [-2]])
        self.assertEqual(ask(tables(slim, wide), best([3, 0]), best([0, 3]))[1:], [[-2], [14, 0, 1]])

    def test_refusal_changes_nothing(self):
        one = table("ab", [[1, 2]])
        told = ask(tables(one, one), least(), best([5, 5]), least())
        self.assertEqual(told[2], [-2])
        self.assertEqual(told[1], told[3])


class Counts(unittest.TestCase):
    def answer(self, old, new):
        return ask(tables(old, new), counts())[1]

    def test_up_to_the_fewer_columns(self):
        for width in range(1, 5):
            for other in range(1, 5):
                told = self.answer(table("abcd"[:width], []), table("abcd"[:other], []))
                self.assertEqual(told, [4 * (width + other - 2 * size) for size in range(min(width, other) + 1)])

    def test_rows_count_too(self):
        old = table("ab", [[1, 2], [3, 4]])
        new = table("ba", [[2, 1], [4, 3], [5, 6]])
        # With none: 16, a lone row 3, two pairs of 4 each. With one: 8, 3, two pairs of 2 each.
        self.assertEqual(self.answer(old, new), [27, 15, 4])


if __name__ == "__main__":
    unittest.main()
