"""Two tables compared: all matchings of their columns, with the least matchings of rows beside each."""

from leastpatches.columns import column_matchings, cost_of_columns
from leastpatches.rows import RowMatchings


class Choice:
    def __init__(self, old, new, pairs):
        self.pairs = pairs
        self.column_cost = cost_of_columns(old, new, pairs)
        self.row_matchings = RowMatchings(old, new, pairs)

    def whole_cost(self):
        return self.column_cost + self.row_matchings.least_cost()


class Comparison:
    def __init__(self, old, new):
        self.old = old
        self.new = new
        self.choices = [Choice(old, new, pairs) for pairs in column_matchings(len(old.names), len(new.names))]

    def cost(self):
        return min([choice.whole_cost() for choice in self.choices])

    def least_choices(self):
        least = self.cost()
        return [choice for choice in self.choices if choice.whole_cost() == least]

    def least_matching(self, place):
        # Answers (pairs of columns, pairs of rows), or None if there are no more than so many least matchings.
        left = place
        for choice in self.least_choices():
            ways = choice.row_matchings.least_count()
            if left < ways:
                return (choice.pairs, choice.row_matchings.least_at(left))
            left -= ways
        return None
