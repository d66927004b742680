"""Matchings and patches, as the numbers they are told by. A matching is (pairs of columns, pairs of rows)."""

from leastpatches.columns import lone_columns
from leastpatches.tables import is_empty


def pairs_told(pairs):
    told = [len(pairs)]
    for old_one, new_one in pairs:
        told.extend([old_one, new_one])
    return told


def matching_told(matching):
    return pairs_told(matching[0]) + pairs_told(matching[1])


def names_told(table):
    told = [len(table.names)]
    for name in table.names:
        told.extend(name)
    return told


def lone_rows_told(table, matched_rows):
    lone = [row for row in range(len(table.rows)) if row not in matched_rows]
    told = [len(lone)]
    for row in lone:
        told.append(row)
        for cell in table.rows[row]:
            told.extend(cell)
    return told


def cells_told(table, cells):
    told = [len(cells)]
    for row, column in cells:
        told.extend([row, column])
        told.extend(table.rows[row][column])
    return told


def side_told(table, matched_rows, cells):
    told = names_told(table) + [len(table.rows)]
    return told + lone_rows_told(table, matched_rows) + cells_told(table, cells)


def cells_in_patch(table, row, lone, changed):
    full = [column for column in lone if not is_empty(table.rows[row][column])]
    return [(row, column) for column in sorted(full + changed)]


def sides_told(old, new, matching):
    column_pairs = matching[0]
    row_pairs = matching[1]
    lone = lone_columns(old, new, column_pairs)
    old_cells = []
    new_cells = []
    for old_row, new_row in row_pairs:
        unlike = [pair for pair in column_pairs if old.rows[old_row][pair[0]] != new.rows[new_row][pair[1]]]
        old_cells.extend(cells_in_patch(old, old_row, lone[0], [pair[0] for pair in unlike]))
        new_cells.extend(cells_in_patch(new, new_row, lone[1], [pair[1] for pair in unlike]))
    old_side = side_told(old, [pair[0] for pair in row_pairs], old_cells)
    new_side = side_told(new, [pair[1] for pair in row_pairs], new_cells)
    return old_side + new_side
