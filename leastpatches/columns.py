"""Matchings of columns: which there are, and what they cost. A pair is (old column, new column)."""

RENAMED = 2
MOVED = 1
LONE_COLUMN = 4


def column_matchings(old_width, new_width):
    # Each new column is given its old ones rising, then none: so all come in the order of matchings.
    matchings = [[]]
    for new_column in range(new_width):
        longer = []
        for pairs in matchings:
            used = [old for old, new in pairs]
            for old_column in range(old_width):
                if old_column not in used:
                    longer.append(pairs + [(old_column, new_column)])
            longer.append(pairs)
        matchings = longer
    return matchings


def longest_rising(numbers):
    # lengths[k] is how long a rising part can be that ends with the number at k.
    lengths = []
    for number in numbers:
        before = [length for length, earlier in zip(lengths, numbers) if earlier < number]
        lengths.append(1 + max(before, default=0))
    return max(lengths, default=0)


def cost_of_columns(old, new, pairs):
    renamed = len([1 for old_column, new_column in pairs if old.names[old_column] != new.names[new_column]])
    moved = len(pairs) - longest_rising([old_column for old_column, new_column in pairs])
    lone = len(old.names) + len(new.names) - 2 * len(pairs)
    return RENAMED * renamed + MOVED * moved + LONE_COLUMN * lone


def pairs_of_like_names(old, new):
    pairs = []
    for new_column, name in enumerate(new.names):
        if name in old.names:
            pairs.append((old.names.index(name), new_column))
    return pairs


def lone_columns(old, new, pairs):
    old_used = [old_column for old_column, new_column in pairs]
    new_used = [new_column for old_column, new_column in pairs]
    old_lone = [column for column in range(len(old.names)) if column not in old_used]
    new_lone = [column for column in range(len(new.names)) if column not in new_used]
    return (old_lone, new_lone)


def pairs_from(numbers):
    return [(numbers[place], numbers[place + 1]) for place in range(0, len(numbers), 2)]


def are_column_pairs(numbers, old_width, new_width):
    if len(numbers) % 2 == 1:
        return False
    pairs = pairs_from(numbers)
    used = []
    lowest_new = 0
    for old_column, new_column in pairs:
        if not 0 <= old_column < old_width or old_column in used:
            return False
        if not lowest_new <= new_column < new_width:
            return False
        used.append(old_column)
        lowest_new = new_column + 1
    return True
