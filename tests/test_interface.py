"""leastpatches.matching.answers: how calls and answers stand in their lists, and what is kept."""

import unittest

from leastpatches.matching import answers
from tests.helper import best, cost, counts, kth, least, maybe, names, pair, patch, rank, surely, table, tables

OLD = table("ab", [[1, "x"], [None, -3]])
NEW = table("ba", [["x", 1], [-3, None], [4, 4]])
CROSSED = [1, 0, 0, 1]
STRAIGHT_ROWS = [0, 0, 1, 1]
# Each call once, all answered.
ALL_CALLS = (
    tables(OLD, NEW) + least() + kth(0) + patch(0) + best(CROSSED) + counts() + pair(1, 0) + surely() + maybe()
    + cost(CROSSED, STRAIGHT_ROWS) + rank(CROSSED, STRAIGHT_ROWS) + names()
)


def refuse_change(*handed, **named):
    raise AssertionError("what was handed in was to be changed")


class Unchanging(list):
    append = extend = insert = pop = remove = clear = sort = reverse = refuse_change
    __setitem__ = __delitem__ = __iadd__ = __imul__ = refuse_change


class Interface(unittest.TestCase):
    def test_each_answer_has_its_length_ahead(self):
        calls = tables(OLD, NEW) + best([1, 0]) + kth(-1) + kth(9) + counts()
        self.assertEqual(answers(calls), [1, 7, 3, 8, 5, 1, 1, -4, 1, 0, 3, 25, 13, 4])
        calls = tables(OLD, NEW) + pair(1, 0) + surely() + maybe() + cost(CROSSED, STRAIGHT_ROWS) + cost([], [])
        calls += rank(CROSSED, STRAIGHT_ROWS) + rank([], []) + names()
        pairs = [5, 2, 1, 0, 0, 1]
        told = [1, 7, 2, 4, 11] + pairs + pairs + [3, 1, 3, 0, 3, 16, 15, 0, 2, 1, 0, 1, 0, 3, 1, 3, 0]
        self.assertEqual(answers(calls), told)

    def test_calls_by_their_numbers(self):
        put = [0] + [len(OLD)] + OLD + [len(NEW)] + NEW
        calls = put + [6, 1, 0, 7, 8, 9, 4, 1, 0, 0, 1, 4, 0, 0, 1, 1, 10, 4, 1, 0, 0, 1, 2, 0, 0, 11]
        told = [1, 7, 2, 4, 11, 5, 2, 1, 0, 0, 1, 5, 2, 1, 0, 0, 1, 3, 1, 3, 0, 1, 0, 3, 1, 3, 0]
        self.assertEqual(answers(calls), told)

    def test_a_refusal_is_its_number_alone(self):
        self.assertEqual(answers(least()), [1, -8])
        self.assertEqual(answers(tables([], [])), [1, -1])
        self.assertEqual(answers(tables(OLD, NEW) + best([7]) + patch(-5)), [1, 7, 1, -2, 1, -4])
        calls = tables(OLD, NEW) + pair(2, 0) + cost([7], []) + cost([], [7]) + rank([7], [7]) + rank([], [7]) + kth(1)
        self.assertEqual(answers(calls), [1, 7, 1, -4, 1, -2, 1, -3, 1, -2, 1, -3, 1, 0])

    def test_lists_are_passed_over_whole_where_they_are_refused(self):
        self.assertEqual(answers(best([1, 5, 0, 3]) + tables([5] * 500, [1] * 500) + kth(3)), [1, -8, 1, -1, 1, -8])
        calls = cost([0] * 20, [0] * 30) + pair(-5, 5) + rank([9] * 19, [11] * 29) + names()
        self.assertEqual(answers(calls), [1, -8] * 4)
        calls = tables(OLD, NEW) + rank([0] * 20, [0] * 30) + cost([], [9] * 30) + surely()
        self.assertEqual(answers(calls), [1, 7, 1, -2, 1, -3, 5, 2, 1, 0, 0, 1])

    def test_what_is_handed_in_stays_as_it_is(self):
        for calls in [ALL_CALLS, cost([1], [2]), tables(OLD, NEW) + cost([], [0]) + rank([9], []) + pair(9, 9)]:
            before = list(calls)
            told = answers(calls)
            self.assertEqual(calls, before)
            # Not for a while either.
            self.assertEqual(answers(Unchanging(calls)), told)

    def test_nothing_is_kept(self):
        calls = tables(OLD, NEW) + least() + patch(0)
        first = answers(calls)
        first.append(5)
        self.assertEqual(answers(least()), [1, -8])
        self.assertEqual(answers(calls), first[:-1])

    def test_all_calls_again_as_if_for_the_first_time(self):
        first = answers(ALL_CALLS)
        other = table("q", [[5]])
        answers(tables(other, other) + names() + cost([], []))
        self.assertEqual(answers(ALL_CALLS), first)
        for call in [pair(0, 0), surely(), maybe(), cost([], []), rank([], []), names()]:
            self.assertEqual(answers(call), [1, -8])

    def test_plain_whole_numbers_in_a_plain_list(self):
        told = answers(ALL_CALLS)
        self.assertIs(type(told), list)
        self.assertEqual({type(number) for number in told}, {int})

    def test_twenty_calls(self):
        full = table("abcd", [[1, 2, 3, 4]] * 7)
        calls = (tables(full, full) + patch(0)) * 10
        one = answers(tables(full, full) + patch(0))
        self.assertEqual(answers(calls), one * 10)


if __name__ == "__main__":
    unittest.main()
