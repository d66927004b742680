"""Matchings of rows beside one matching of columns: what they cost; the least ones, counted and found by place."""

from leastpatches.columns import lone_columns, pairs_from
from leastpatches.tables import is_empty

LONE_ROW = 3
# More than any matching of rows costs: stands where there is none.
BEYOND = 1000000


def are_row_pairs(numbers, old_height, new_height):
    if len(numbers) % 2 == 1:
        return False
    lowest_old = 0
    lowest_new = 0
    for old_row, new_row in pairs_from(numbers):
        if not lowest_old <= old_row < old_height or not lowest_new <= new_row < new_height:
            return False
        lowest_old = old_row + 1
        lowest_new = new_row + 1
    return True


def filled(row, columns):
    return len([1 for column in columns if not is_empty(row[column])])


def row_pair_costs(old, new, column_pairs):
    lone = lone_columns(old, new, column_pairs)
    old_filled = [filled(row, lone[0]) for row in old.rows]
    new_filled = [filled(row, lone[1]) for row in new.rows]
    costs = []
    for old_place, old_row in enumerate(old.rows):
        line = []
        for new_place, new_row in enumerate(new.rows):
            unlike = len([1 for one, other in column_pairs if old_row[one] != new_row[other]])
            line.append(unlike + old_filled[old_place] + new_filled[new_place])
        costs.append(line)
    return costs


# What follows tells matchings as (what the least of them cost, how many cost that).

def raised(told, cost):
    return (told[0] + cost, told[1])


def merged(one, other):
    if one[0] < other[0]:
        return one
    if other[0] < one[0]:
        return other
    return (one[0], one[1] + other[1])


def how_many(told, cost):
    return told[1] if told[0] == cost else 0


class RowMatchings:
    # free[i][j] tells the matchings of the old rows from i on with the new rows from j on; taken[i][j] those of
    # them in which the old row i is in a pair. To take an old row or to leave it lone is the one choice at each
    # step, so no matching is counted twice.
    def __init__(self, old, new, column_pairs):
        self.costs = row_pair_costs(old, new, column_pairs)
        self.old_height = len(old.rows)
        self.new_height = len(new.rows)
        self.free = [[(LONE_ROW * (self.new_height - place), 1) for place in range(self.new_height + 1)]]
        self.taken = []
        for old_row in range(self.old_height - 1, -1, -1):
            self.put_old_row(old_row)

    def put_old_row(self, old_row):
        below = self.free[0]
        taken = [(BEYOND, 0)]
        for new_row in range(self.new_height - 1, -1, -1):
            paired = raised(below[new_row + 1], self.costs[old_row][new_row])
            taken.insert(0, merged(paired, raised(taken[0], LONE_ROW)))
        free = [merged(one, raised(other, LONE_ROW)) for one, other in zip(taken, below)]
        self.taken.insert(0, taken)
        self.free.insert(0, free)

    def least_cost(self):
        return self.free[0][0][0]

    def least_count(self):
        return self.free[0][0][1]

    def lone_cost(self, pairs):
        return LONE_ROW * (self.old_height + self.new_height - 2 * len(pairs))

    def cell_cost(self, pairs):
        return sum([self.costs[old_row][new_row] for old_row, new_row in pairs])

    def ways_taken(self, old_row, new_row):
        # Of the least matchings that free tells there, those in which the old row is in a pair. They come first.
        return how_many(self.taken[old_row][new_row], self.free[old_row][new_row][0])

    def ways_paired(self, old_row, new_row):
        # Of the least matchings that taken tells there, those in which the two rows are a pair. They come first.
        paired = raised(self.free[old_row + 1][new_row + 1], self.costs[old_row][new_row])
        return how_many(paired, self.taken[old_row][new_row][0])

    def least_at(self, place):
        pairs = []
        left = place
        old_row = 0
        new_row = 0
        while old_row < self.old_height:
            ways = self.ways_taken(old_row, new_row)
            if left < ways:
                found = self.find_partner(old_row, new_row, left)
                pairs.append((old_row, found[0]))
                new_row = found[0] + 1
                left = found[1]
            else:
                left -= ways
            old_row += 1
        return pairs

    def find_partner(self, old_row, first_new_row, place):
        # Answers the new row, and which of the least matchings with this pair it is that has the place.
        new_row = first_new_row
        left = place
        while True:
            ways = self.ways_paired(old_row, new_row)
            if left < ways:
                return (new_row, left)
            left -= ways
            new_row += 1

    def place_of(self, pairs):
        # The matching must be a least one: each step counts those that come ahead of it by what it does there.
        partners = dict(pairs)
        place = 0
        new_row = 0
        for old_row in range(self.old_height):
            if old_row in partners:
                partner = partners[old_row]
                place += sum([self.ways_paired(old_row, earlier) for earlier in range(new_row, partner)])
                new_row = partner + 1
            else:
                place += self.ways_taken(old_row, new_row)
        return place
