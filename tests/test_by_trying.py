"""All calls against every matching tried, on many small tables and on a large one."""

import random
import unittest

from tests.helper import ByTrying, ask, best, counts, kth, least, patch, table, tables

CELLS = [None, 1, 2, "1", "x"]


def some_table(chance, most_columns, most_rows):
    width = chance.randint(1, most_columns)
    names = chance.sample(["a", "b", "c", "d", "ab"], width)
    rows = [[chance.choice(CELLS) for column in range(width)] for row in range(chance.randint(0, most_rows))]
    return (names, rows)


def changed(chance, source):
    names, rows = source
    kept = chance.sample(range(len(names)), chance.randint(1, len(names)))
    new_rows = [[row[column] for column in kept] for row in rows if chance.random() < 0.8]
    for row in new_rows:
        if chance.random() < 0.4:
            row[chance.randrange(len(row))] = chance.choice(CELLS)
    return ([names[column] for column in kept], new_rows)


class ByTryingAll(unittest.TestCase):
    def compare(self, old, new, chance):
        tried = ByTrying(old, new)
        last = len(tried.matchings) - 1
        places = sorted({0, last // 2, last, last + 1, chance.randint(0, last)})
        columns = chance.sample(tried.columns, min(5, len(tried.columns)))
        calls = [least(), counts()]
        expected = [tried.least(), tried.counts()]
        for place in places:
            calls += [kth(place), patch(place)]
            expected += [tried.kth(place), tried.patch(place)]
        for pairs in columns:
            calls.append(best([number for pair in pairs for number in pair]))
            expected.append(tried.best(pairs))
        told = ask(tables(table(*old), table(*new)), *calls)
        self.assertEqual(told[0], [len(tried.columns)], (old, new))
        for call, answer, right in zip(calls, told[1:], expected, strict=True):
            self.assertEqual(answer, right, (old, new, call))

    def test_unlike_tables(self):
        chance = random.Random(1)
        for turn in range(150):
            self.compare(some_table(chance, 3, 4), some_table(chance, 3, 4), chance)

    def test_tables_that_came_again(self):
        chance = random.Random(2)
        for turn in range(100):
            old = some_table(chance, 4, 4)
            self.compare(old, changed(chance, old), chance)

    def test_every_place(self):
        chance = random.Random(3)
        for turn in range(20):
            old = (["a", "b"][:chance.randint(1, 2)], [])
            old = (old[0], [[None] * len(old[0]) for row in range(chance.randint(0, 3))])
            new = (["c", "d", "e"], [[chance.choice([None, None, 1]) for column in range(3)] for row in range(2)])
            tried = ByTrying(old, new)
            for place in range(len(tried.matchings) + 1):
                told = ask(tables(table(*old), table(*new)), kth(place), patch(place))
                self.assertEqual(told[1:], [tried.kth(place), tried.patch(place)])

    def test_largest(self):
        chance = random.Random(4)
        old = (list("abcd"), [[chance.choice(CELLS) for column in range(4)] for row in range(7)])
        new = (list("dbae"), [[chance.choice(CELLS) for column in range(4)] for row in range(7)])
        self.compare(old, new, chance)


if __name__ == "__main__":
    unittest.main()
