"""The document's example, and what follows from its words on the same two tables."""

import unittest

from tests.helper import ask, best, cost, counts, kth, least, maybe, names, pair, patch, rank, surely, tables

OLD = [2, 1, 97, 1, 98, 2, 1, 1, 2, 1, 120, 1, 2, 2, 1, 121]
NEW = [2, 1, 99, 1, 97, 2, 2, 1, 120, 1, 1, 2, 1, 122, 1, 2]


class Example(unittest.TestCase):
    def answer(self, call):
        return ask(tables(OLD, NEW), call)[1]

    def test_tables(self):
        self.assertEqual(ask(tables(OLD, NEW)), [[7]])

    def test_least(self):
        self.assertEqual(self.answer(least()), [4, 1, 1, 2, 1, 0, 0, 1, 2, 0, 0, 1, 1])

    def test_kth(self):
        self.assertEqual(self.answer(kth(0)), [1, 2, 1, 0, 0, 1, 2, 0, 0, 1, 1])
        self.assertEqual(self.answer(kth(1)), [0])

    def test_best(self):
        self.assertEqual(self.answer(best([1, 0])), [10, 5, 1])

    def test_counts(self):
        self.assertEqual(self.answer(counts()), [24, 12, 4])

    def test_pair(self):
        self.assertEqual(self.answer(pair(0, 1)), [4, 8])

    def test_surely_and_maybe(self):
        self.assertEqual(self.answer(surely()), [2, 1, 0, 0, 1])
        self.assertEqual(self.answer(maybe()), [2, 1, 0, 0, 1])

    def test_cost(self):
        self.assertEqual(self.answer(cost([1, 0, 0, 1], [0, 0, 1, 1])), [3, 0, 1])

    def test_rank(self):
        self.assertEqual(self.answer(rank([1, 0, 0, 1], [0, 0, 1, 1])), [1, 0])
        self.assertEqual(self.answer(rank([1, 0, 0, 1], [0, 0])), [0])

    def test_names(self):
        self.assertEqual(self.answer(names()), [8, 4, 8])

    def test_patch(self):
        pairs = [2, 1, 0, 0, 1, 2, 0, 0, 1, 1]
        old_side = [2, 1, 97, 1, 98, 2, 0, 1, 1, 1, 2, 1, 121]
        new_side = [2, 1, 99, 1, 97, 2, 0, 1, 1, 0, 2, 1, 122]
        self.assertEqual(self.answer(patch(0)), [1] + pairs + old_side + new_side)
        self.assertEqual(self.answer(patch(1)), [0])


if __name__ == "__main__":
    unittest.main()
