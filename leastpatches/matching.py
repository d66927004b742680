"""The calls on one object, which come as one list of numbers and are answered as one."""

from leastpatches.columns import are_column_pairs, pairs_from, pairs_of_like_names
from leastpatches.comparing import Choice, Comparison
from leastpatches.patches import matching_told, pairs_told, sides_told
from leastpatches.rows import are_row_pairs
from leastpatches.tables import NotATable, read_table

TABLES = 0
LEAST = 1
KTH = 2
PATCH = 3
BEST = 4
COUNTS = 5
PAIR = 6
SURELY = 7
MAYBE = 8
COST = 9
RANK = 10

# What each call, from tables to names, hands over behind its number, which is its place here.
HANDED_OVER = (
    ("list", "list"),
    (),
    ("number",),
    ("number",),
    ("list",),
    (),
    ("number", "number"),
    (),
    (),
    ("list", "list"),
    ("list", "list"),
    (),
)

NOT_A_TABLE = -1
NOT_COLUMN_PAIRS = -2
NOT_ROW_PAIRS = -3
NO_SUCH_PLACE = -4
NO_SUCH_COLUMN = -4
TOO_LARGE = -6
NO_TABLES = -8

MOST_COLUMNS_TAKEN = 4
MOST_ROWS_TAKEN = 7


def is_too_large(table):
    return len(table.names) > MOST_COLUMNS_TAKEN or len(table.rows) > MOST_ROWS_TAKEN


def least_answer(comparison):
    choices = comparison.least_choices()
    matchings = sum([choice.row_matchings.least_count() for choice in choices])
    return [comparison.cost(), len(choices), matchings] + matching_told(comparison.least_matching(0))


def answer_at_place(comparison, place, with_sides):
    if place < 0:
        return [NO_SUCH_PLACE]
    found = comparison.least_matching(place)
    if found is None:
        return [0]
    answer = [1] + matching_told(found)
    if with_sides:
        answer.extend(sides_told(comparison.old, comparison.new, found))
    return answer


def best_answer(comparison, numbers):
    old = comparison.old
    new = comparison.new
    if not are_column_pairs(numbers, len(old.names), len(new.names)):
        return [NOT_COLUMN_PAIRS]
    choice = Choice(old, new, pairs_from(numbers))
    return [choice.column_cost, choice.row_matchings.least_cost(), choice.row_matchings.least_count()]


def counts_answer(comparison):
    fewer = min(len(comparison.old.names), len(comparison.new.names))
    answer = []
    for size in range(fewer + 1):
        answer.append(min([choice.whole_cost() for choice in comparison.choices if len(choice.pairs) == size]))
    return answer


def pair_answer(comparison, old_column, new_column):
    if not 0 <= old_column < len(comparison.old.names) or not 0 <= new_column < len(comparison.new.names):
        return [NO_SUCH_COLUMN]
    pair = (old_column, new_column)
    return [comparison.cost_with_pair(pair), comparison.cost_without_pair(pair)]


def surely_answer(comparison):
    return pairs_told(comparison.pairs_in_least(len(comparison.least_choices())))


def maybe_answer(comparison):
    return pairs_told(comparison.pairs_in_least(1))


def refusal_of_matching(comparison, column_numbers, row_numbers):
    # Answers no numbers if the two lists are a matching.
    old = comparison.old
    new = comparison.new
    if not are_column_pairs(column_numbers, len(old.names), len(new.names)):
        return [NOT_COLUMN_PAIRS]
    if not are_row_pairs(row_numbers, len(old.rows), len(new.rows)):
        return [NOT_ROW_PAIRS]
    return []


def cost_answer(comparison, column_numbers, row_numbers):
    refusal = refusal_of_matching(comparison, column_numbers, row_numbers)
    if len(refusal) > 0:
        return refusal
    choice = Choice(comparison.old, comparison.new, pairs_from(column_numbers))
    return choice.costs_with(pairs_from(row_numbers))


def rank_answer(comparison, column_numbers, row_numbers):
    refusal = refusal_of_matching(comparison, column_numbers, row_numbers)
    if len(refusal) > 0:
        return refusal
    place = comparison.place_of(pairs_from(column_numbers), pairs_from(row_numbers))
    if place is None:
        return [0]
    return [1, place]


def names_answer(comparison):
    old = comparison.old
    new = comparison.new
    choice = Choice(old, new, pairs_of_like_names(old, new))
    above = choice.whole_cost() - comparison.cost()
    return [choice.column_cost, choice.row_matchings.least_cost(), above]


class Session:
    def __init__(self):
        self.comparison = None

    def put_tables(self, old_numbers, new_numbers):
        try:
            old = read_table(old_numbers)
            new = read_table(new_numbers)
        except NotATable:
            return [NOT_A_TABLE]
        if is_too_large(old) or is_too_large(new):
            return [TOO_LARGE]
        self.comparison = Comparison(old, new)
        return [len(self.comparison.choices)]

    def answer(self, call, handed):
        if call == TABLES:
            return self.put_tables(handed[0], handed[1])
        if self.comparison is None:
            return [NO_TABLES]
        if call == LEAST:
            return least_answer(self.comparison)
        if call == KTH:
            return answer_at_place(self.comparison, handed[0], False)
        if call == PATCH:
            return answer_at_place(self.comparison, handed[0], True)
        if call == BEST:
            return best_answer(self.comparison, handed[0])
        if call == COUNTS:
            return counts_answer(self.comparison)
        if call == PAIR:
            return pair_answer(self.comparison, handed[0], handed[1])
        if call == SURELY:
            return surely_answer(self.comparison)
        if call == MAYBE:
            return maybe_answer(self.comparison)
        if call == COST:
            return cost_answer(self.comparison, handed[0], handed[1])
        if call == RANK:
            return rank_answer(self.comparison, handed[0], handed[1])
        return names_answer(self.comparison)


def read_handed(calls, start):
    # Answers what the call that begins there hands over, and where the next call begins.
    handed = []
    position = start + 1
    for kind in HANDED_OVER[calls[start]]:
        if kind == "number":
            handed.append(calls[position])
            position += 1
        else:
            end = position + 1 + calls[position]
            handed.append(calls[position + 1:end])
            position = end
    return (handed, position)


def answers(calls):
    session = Session()
    told = []
    position = 0
    while position < len(calls):
        read = read_handed(calls, position)
        answer = session.answer(calls[position], read[0])
        told.append(len(answer))
        told.extend(answer)
        position = read[1]
    return told
