"""Two tables compared: all matchings of their columns, with the least matchings of rows beside each."""

from leastpatches.columns import column_matchings, cost_of_columns
from leastpatches.rows import RowMatchings


class Choice:
    def __init__(self, old, new, pairs):
        self.pairs = pairs
        self.column_cost = cost_of_columns(old, new, pairs)
        self.row_matchings = RowMatchings(old, new, pairs)

    def whole_cost(self):
        return self.column_cost + self.row_matchings.least_cost()

    def costs_with(self, row_pairs):
        rows = self.row_matchings
        return [self.column_cost, rows.lone_cost(row_pairs), rows.cell_cost(row_pairs)]


class Comparison:
    def __init__(self, old, new):
        self.old = old
        self.new = new
        self.choices = [Choice(old, new, pairs) for pairs in column_matchings(len(old.names), len(new.names))]

    def cost(self):
        return min([choice.whole_cost() for choice in self.choices])

    def least_choices(self):
        least = self.cost()
        return [choice for choice in self.choices if choice.whole_cost() == least]

    def least_matching(self, place):
        # Answers (pairs of columns, pairs of rows), or None if there are no more than so many least matchings.
        left = place
        for choice in self.least_choices():
            ways = choice.row_matchings.least_count()
            if left < ways:
                return (choice.pairs, choice.row_matchings.least_at(left))
            left -= ways
        return None

    def place_of(self, column_pairs, row_pairs):
        # Answers None if the matching isn't least.
        ahead = 0
        for choice in self.least_choices():
            if choice.pairs == column_pairs:
                if sum(choice.costs_with(row_pairs)) > choice.whole_cost():
                    return None
                return ahead + choice.row_matchings.place_of(row_pairs)
            ahead += choice.row_matchings.least_count()
        return None

    def cost_with_pair(self, pair):
        return min([choice.whole_cost() for choice in self.choices if pair in choice.pairs])

    def cost_without_pair(self, pair):
        return min([choice.whole_cost() for choice in self.choices if pair not in choice.pairs])

    def pairs_in_least(self, fewest):
        # Answers the pairs that are in at least so many of the least choices, by new columns, then by old ones.
        least = self.least_choices()
        found = []
        for new_column in range(len(self.new.names)):
            for old_column in range(len(self.old.names)):
                pair = (old_column, new_column)
                if len([1 for choice in least if pair in choice.pairs]) >= fewest:
                    found.append(pair)
        return found
