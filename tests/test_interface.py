"""leastpatches.matching.answers: how calls and answers stand in their lists, and what is kept."""

import unittest

from leastpatches.matching import answers
from tests.helper import best, counts, kth, least, patch, table, tables

OLD = table("ab", [[1, "x"], [None, -3]])
NEW = table("ba", [["x", 1], [-3, None], [4, 4]])


class Interface(unittest.TestCase):
    def test_each_answer_has_its_length_ahead(self):
        calls = tables(OLD, NEW) + best([1, 0]) + kth(-1) + kth(9) + counts()
        self.assertEqual(answers(calls), [1, 7, 3, 8, 5, 1, 1, -4, 1, 0, 3, 25, 13, 4])

    def test_a_refusal_is_its_number_alone(self):
        self.assertEqual(answers(least()), [1, -8])
        self.assertEqual(answers(tables([], [])), [1, -1])
        self.assertEqual(answers(tables(OLD, NEW) + best([7]) + patch(-5)), [1, 7, 1, -2, 1, -4])

    def test_lists_are_passed_over_whole_where_they_are_refused(self):
        self.assertEqual(answers(best([1, 5, 0, 3]) + tables([5] * 500, [1] * 500) + kth(3)), [1, -8, 1, -1, 1, -8])

    def test_what_is_handed_in_stays_as_it_is(self):
        calls = tables(OLD, NEW) + least() + kth(0) + patch(0) + best([1, 0, 0, 1]) + counts()
        before = list(calls)
        answers(calls)
        self.assertEqual(calls, before)

    def test_nothing_is_kept(self):
        calls = tables(OLD, NEW) + least() + patch(0)
        first = answers(calls)
        first.append(5)
        self.assertEqual(answers(least()), [1, -8])
        self.assertEqual(answers(calls), first[:-1])

    def test_plain_whole_numbers_in_a_plain_list(self):
        told = answers(tables(OLD, NEW) + least() + kth(0) + patch(0) + best([]) + counts())
        self.assertIs(type(told), list)
        self.assertEqual({type(number) for number in told}, {int})

    def test_twenty_calls(self):
        full = table("abcd", [[1, 2, 3, 4]] * 7)
        calls = (tables(full, full) + patch(0)) * 10
        one = answers(tables(full, full) + patch(0))
        self.assertEqual(answers(calls), one * 10)


if __name__ == "__main__":
    unittest.main()
