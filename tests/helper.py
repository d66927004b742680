"""What the tests share: calls as numbers, and the document's words done over by trying every matching."""

from itertools import combinations, permutations

from leastpatches.matching import answers


def cell(value):
    if value is None:
        return [0]
    if isinstance(value, int):
        return [1, value]
    return [2, len(value)] + [ord(sign) for sign in value]


def name(text):
    return [len(text)] + [ord(sign) for sign in text]


def table(names, rows):
    numbers = [len(names)]
    for text in names:
        numbers += name(text)
    numbers.append(len(rows))
    for row in rows:
        for value in row:
            numbers += cell(value)
    return numbers


def listed(numbers):
    return [len(numbers)] + list(numbers)


def tables(old, new):
    return [0] + listed(old) + listed(new)


def least():
    return [1]


def kth(place):
    return [2, place]


def patch(place):
    return [3, place]


def best(pairs):
    return [4] + listed(pairs)


def counts():
    return [5]


def pair(old_column, new_column):
    return [6, old_column, new_column]


def surely():
    return [7]


def maybe():
    return [8]


def cost(column_pairs, row_pairs):
    return [9] + listed(column_pairs) + listed(row_pairs)


def rank(column_pairs, row_pairs):
    return [10] + listed(column_pairs) + listed(row_pairs)


def names():
    return [11]


def ask(*calls):
    numbers = answers([number for call in calls for number in call])
    split = []
    at = 0
    while at < len(numbers):
        end = at + 1 + numbers[at]
        split.append(numbers[at + 1:end])
        at = end
    assert at == len(numbers) and len(split) == len(calls), numbers
    return split


def flat(pairs):
    return [number for one in pairs for number in one]


def told(pairs):
    return [len(pairs)] + flat(pairs)


def all_column_pairs(old_width, new_width):
    found = []
    for size in range(min(old_width, new_width) + 1):
        for new in combinations(range(new_width), size):
            for old in permutations(range(old_width), size):
                found.append(list(zip(old, new)))
    # A row that goes on comes ahead of one that ends, so the end is a pair beyond all others.
    return sorted(found, key=lambda pairs: [(new, old) for old, new in pairs] + [(99, 99)])


def all_row_pairs(old_height, new_height):
    found = []
    for size in range(min(old_height, new_height) + 1):
        for old in combinations(range(old_height), size):
            for new in combinations(range(new_height), size):
                found.append(list(zip(old, new)))
    return sorted(found, key=lambda pairs: pairs + [(99, 99)])


def is_rising(numbers):
    return all(one < other for one, other in zip(numbers, numbers[1:]))


class ByTrying:
    """A comparison of two tables, each (names, rows), in which nothing is clever."""

    def __init__(self, old, new):
        self.old_names, self.old_rows = old
        self.new_names, self.new_rows = new
        self.columns = all_column_pairs(len(self.old_names), len(self.new_names))
        self.rows = all_row_pairs(len(self.old_rows), len(self.new_rows))
        self.row_costs = [self.costs_of_rows(pairs) for pairs in self.columns]
        self.column_costs = [self.cost_of_columns(pairs) for pairs in self.columns]
        self.cheapest = min(c + min(r) for c, r in zip(self.column_costs, self.row_costs))
        self.matchings = []
        for columns, cost, row_costs in zip(self.columns, self.column_costs, self.row_costs):
            for rows, row_cost in zip(self.rows, row_costs):
                if cost + row_cost == self.cheapest:
                    self.matchings.append((columns, rows))

    def cost_of_columns(self, pairs):
        cost = 4 * (len(self.old_names) - len(pairs)) + 4 * (len(self.new_names) - len(pairs))
        cost += sum(2 for old, new in pairs if self.old_names[old] != self.new_names[new])
        olds = [old for old, new in pairs]
        parts = [part for size in range(len(olds) + 1) for part in combinations(olds, size) if is_rising(part)]
        return cost + len(pairs) - max(len(part) for part in parts)

    def cost_of_row_pair(self, old_row, new_row, columns):
        cost = sum(1 for old, new in columns if self.old_rows[old_row][old] != self.new_rows[new_row][new])
        for column, value in enumerate(self.old_rows[old_row]):
            cost += value is not None and column not in [old for old, new in columns]
        for column, value in enumerate(self.new_rows[new_row]):
            cost += value is not None and column not in [new for old, new in columns]
        return cost

    def costs_of_rows(self, columns):
        heights = len(self.old_rows) + len(self.new_rows)
        pair_costs = {}
        for old in range(len(self.old_rows)):
            for new in range(len(self.new_rows)):
                pair_costs[(old, new)] = self.cost_of_row_pair(old, new, columns)
        return [3 * (heights - 2 * len(rows)) + sum(pair_costs[pair] for pair in rows) for rows in self.rows]

    def least(self):
        used = [columns for columns in self.columns if any(columns == one[0] for one in self.matchings)]
        first = self.matchings[0]
        return [self.cheapest, len(used), len(self.matchings)] + told(first[0]) + told(first[1])

    def kth(self, place):
        if place >= len(self.matchings):
            return [0]
        return [1] + told(self.matchings[place][0]) + told(self.matchings[place][1])

    def best(self, columns):
        at = self.columns.index(columns)
        cheapest = min(self.row_costs[at])
        return [self.column_costs[at], cheapest, self.row_costs[at].count(cheapest)]

    def counts(self):
        sizes = range(min(len(self.old_names), len(self.new_names)) + 1)
        costs = list(zip(self.columns, self.column_costs, self.row_costs))
        return [min(cost + min(rows) for pairs, cost, rows in costs if len(pairs) == size) for size in sizes]

    def pair(self, old_column, new_column):
        with_it = []
        without_it = []
        for columns, cost_of_columns, row_costs in zip(self.columns, self.column_costs, self.row_costs):
            if (old_column, new_column) in columns:
                with_it += [cost_of_columns + row_cost for row_cost in row_costs]
            else:
                without_it += [cost_of_columns + row_cost for row_cost in row_costs]
        return [min(with_it), min(without_it)]

    def pairs_where(self, holds):
        found = []
        for new_column in range(len(self.new_names)):
            for old_column in range(len(self.old_names)):
                if holds([(old_column, new_column) in columns for columns, rows in self.matchings]):
                    found.append((old_column, new_column))
        return told(found)

    def surely(self):
        return self.pairs_where(all)

    def maybe(self):
        return self.pairs_where(any)

    def cost(self, columns, rows):
        lone_rows = len(self.old_rows) - len(rows) + len(self.new_rows) - len(rows)
        cells = sum(self.cost_of_row_pair(old, new, columns) for old, new in rows)
        return [self.cost_of_columns(columns), 3 * lone_rows, cells]

    def rank(self, columns, rows):
        if (columns, rows) not in self.matchings:
            return [0]
        return [1, self.matchings.index((columns, rows))]

    def names(self):
        columns = []
        for new_column, text in enumerate(self.new_names):
            columns += [(old_column, new_column) for old_column, one in enumerate(self.old_names) if one == text]
        costs = self.best(columns)[:2]
        return costs + [sum(costs) - self.cheapest]

    def side(self, which, columns, rows):
        texts, cells = (self.old_names, self.old_rows) if which == 0 else (self.new_names, self.new_rows)
        numbers = [len(texts)] + [number for text in texts for number in name(text)] + [len(cells)]
        lone = [row for row in range(len(cells)) if row not in [one[which] for one in rows]]
        numbers.append(len(lone))
        for row in lone:
            numbers += [row] + [number for value in cells[row] for number in cell(value)]
        shown = []
        for rows_pair in rows:
            for column in range(len(texts)):
                value = cells[rows_pair[which]][column]
                partners = [columns_pair for columns_pair in columns if columns_pair[which] == column]
                if partners:
                    old, new = partners[0]
                    is_told = self.old_rows[rows_pair[0]][old] != self.new_rows[rows_pair[1]][new]
                else:
                    is_told = value is not None
                if is_told:
                    shown.append([rows_pair[which], column] + cell(value))
        return numbers + told(shown)

    def patch(self, place):
        if place >= len(self.matchings):
            return [0]
        columns, rows = self.matchings[place]
        return self.kth(place) + self.side(0, columns, rows) + self.side(1, columns, rows)
