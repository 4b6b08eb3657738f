"""Grids of fractions: determinants, products, and grids solved for one another."""

from rimread.errors import NoAnswer
from rimread.fractions import fraction, greatest_divisor


def common_bottom(entries):
    common = 1
    for entry in entries:
        common = common // greatest_divisor(common, entry[1]) * entry[1]
    return common


def columns_of(grid):
    if len(grid) == 0:
        return []
    return [[row[j] for row in grid] for j in range(len(grid[0]))]


# The fractions as whole numbers over one bottom: (whole numbers, bottom).
def cleared(entries):
    bottom = common_bottom(entries)
    return ([entry[0] * (bottom // entry[1]) for entry in entries], bottom)


# Only the first rows are free: the others have had their turn at the front. The row that is brought there
# has its signs turned, so that the determinant stays. No rows are told where all free ones begin with 0.
def with_pivot(rows, free):
    for k in range(free):
        if rows[k][0] != 0:
            if k == 0:
                return rows
            brought = [-entry for entry in rows[k]]
            return [brought] + rows[1:k] + [rows[0]] + rows[k + 1:]
    return []


# The division leaves no rest, for what it makes is a minor of the rows at the start (Bareiss).
def lessened(row, pivot_row, before):
    return [(pivot_row[0] * row[j] - row[0] * pivot_row[j]) // before for j in range(1, len(row))]


# Rows of whole numbers stay whole all the way, for to bring fractions to lowest terms at each step costs more.
# Told is the determinant of the first columns, as many as there are rows, and what has become of the columns
# behind them: the answer for these, times the determinant.
def swept(rows):
    before = 1
    left = rows
    for free in range(len(rows), 0, -1):
        ordered = with_pivot(left, free)
        if len(ordered) == 0:
            return (0, [])
        pivot_row = ordered[0]
        # The row that is done goes to the end, so that at last they stand in the order of the columns.
        left = [lessened(row, pivot_row, before) for row in ordered[1:]] + [pivot_row[1:]]
        before = pivot_row[0]
    return (before, left)


def determinant(grid):
    rows = []
    bottom = 1
    for row in grid:
        whole = cleared(row)
        rows.append(whole[0])
        bottom = bottom * whole[1]
    return fraction(swept(rows)[0], bottom)


# The grid's bottoms are cleared row by row, the other one's column by column: cleared row by row
# together, all numbers would become about twice as long.
def cleared_together(grid, columns):
    rows = []
    for k in range(len(grid)):
        whole = cleared(grid[k])
        rows.append(whole[0] + [whole[1] * column[0][k] for column in columns])
    return rows


def solved(grid, other):
    columns = [cleared(column) for column in columns_of(other)]
    # Just one grid has as many rows and no fractions, so there it is the one answer, whatever the grid.
    if len(columns) == 0:
        return [[] for row in other]
    outcome = swept(cleared_together(grid, columns))
    if outcome[0] == 0:
        raise NoAnswer("no grid, or more than one, makes the other one")
    bottoms = [outcome[0] * column[1] for column in columns]
    return [[fraction(top, bottom) for top, bottom in zip(row, bottoms)] for row in outcome[1]]


def row_times_column(row, column):
    top = sum([one * other for one, other in zip(row[0], column[0])])
    return fraction(top, row[1] * column[1])


def multiplied(grid, other):
    columns = [cleared(column) for column in columns_of(other)]
    rows = [cleared(row) for row in grid]
    return [[row_times_column(row, column) for column in columns] for row in rows]
