"""All calls against every matching tried, on many small tables and on a large one."""

import random
import unittest

from tests.helper import ByTrying, ask, best, cost, counts, flat, kth, least, maybe, names, pair, patch, rank, surely
from tests.helper import table, tables

CELLS = [None, 1, 2, "1", "x"]


def some_table(chance, most_columns, most_rows):
    width = chance.randint(1, most_columns)
    names = chance.sample(["a", "b", "c", "d", "ab"], width)
    rows = [[chance.choice(CELLS) for column in range(width)] for row in range(chance.randint(0, most_rows))]
    return (names, rows)


def changed(chance, source):
    names, rows = source
    kept = chance.sample(range(len(names)), chance.randint(1, len(names)))
    new_rows = [[row[column] for column in kept] for row in rows if chance.random() < 0.8]
    for row in new_rows:
        if chance.random() < 0.4:
            row[chance.randrange(len(row))] = chance.choice(CELLS)
    return ([names[column] for column in kept], new_rows)


class ByTryingAll(unittest.TestCase):
    def compare(self, old, new, chance):
        tried = ByTrying(old, new)
        last = len(tried.matchings) - 1
        places = sorted({0, last // 2, last, last + 1, chance.randint(0, last)})
        columns = chance.sample(tried.columns, min(5, len(tried.columns)))
        expected = [(least(), tried.least()), (counts(), tried.counts())]
        for place in places:
            expected += [(kth(place), tried.kth(place)), (patch(place), tried.patch(place))]
        for pairs in columns:
            expected.append((best(flat(pairs)), tried.best(pairs)))
        self.compare_calls(old, new, tried, expected)
        self.compare_pairs(old, new, tried)
        self.compare_matchings(old, new, tried, chance)

    def compare_pairs(self, old, new, tried):
        expected = [(surely(), tried.surely()), (maybe(), tried.maybe()), (names(), tried.names())]
        for old_column in range(len(old[0])):
            for new_column in range(len(new[0])):
                expected.append((pair(old_column, new_column), tried.pair(old_column, new_column)))
        self.compare_calls(old, new, tried, expected)

    def compare_matchings(self, old, new, tried, chance):
        matchings = chance.sample(tried.matchings, min(8, len(tried.matchings)))
        # Beside the columns of least matchings all matchings of rows, beside all columns some.
        matchings += [(columns, chance.choice(tried.rows)) for columns, rows in matchings]
        matchings += [(chance.choice(tried.columns), chance.choice(tried.rows)) for turn in range(6)]
        expected = []
        for columns, rows in matchings:
            expected.append((cost(flat(columns), flat(rows)), tried.cost(columns, rows)))
            expected.append((rank(flat(columns), flat(rows)), tried.rank(columns, rows)))
        self.compare_calls(old, new, tried, expected)

    def compare_calls(self, old, new, tried, expected):
        for start in range(0, len(expected), 19):
            part = expected[start:start + 19]
            told = ask(tables(table(*old), table(*new)), *[call for call, right in part])
            self.assertEqual(told[0], [len(tried.columns)], (old, new))
            for (call, right), answer in zip(part, told[1:], strict=True):
                self.assertEqual(answer, right, (old, new, call))

    def test_unlike_tables(self):
        chance = random.Random(1)
        for turn in range(150):
            self.compare(some_table(chance, 3, 4), some_table(chance, 3, 4), chance)

    def test_tables_that_came_again(self):
        chance = random.Random(2)
        for turn in range(100):
            old = some_table(chance, 4, 4)
            self.compare(old, changed(chance, old), chance)

    def test_every_place(self):
        chance = random.Random(3)
        for turn in range(20):
            old = (["a", "b"][:chance.randint(1, 2)], [])
            old = (old[0], [[None] * len(old[0]) for row in range(chance.randint(0, 3))])
            new = (["c", "d", "e"], [[chance.choice([None, None, 1]) for column in range(3)] for row in range(2)])
            tried = ByTrying(old, new)
            expected = []
            for place in range(len(tried.matchings) + 1):
                expected += [(kth(place), tried.kth(place)), (patch(place), tried.patch(place))]
            for place, (columns, rows) in enumerate(tried.matchings):
                expected.append((rank(flat(columns), flat(rows)), [1, place]))
            self.compare_calls(old, new, tried, expected)

    def test_largest(self):
        chance = random.Random(4)
        old = (list("abcd"), [[chance.choice(CELLS) for column in range(4)] for row in range(7)])
        new = (list("dbae"), [[chance.choice(CELLS) for column in range(4)] for row in range(7)])
        self.compare(old, new, chance)


if __name__ == "__main__":
    unittest.main()
