"""Triangles of columns: rows that rise, each between the numbers of the next one."""

from turnsigns.errors import NoRow, NoTriangle, TooMany
from turnsigns.grids import is_row, is_within, rises_down, sums_down
from turnsigns.tables import must_be_table

MOST_ROWS = 6
GREATEST_COLUMN = 8
MOST_TOLD = 4


def columns_of(sums):
    """The columns, from 1, whose sum is 1, rising."""
    return tuple([at + 1 for at, total in enumerate(sums) if total == 1])


def sums_by(columns, side):
    """The sums of so many columns that are 1 at these columns and else 0."""
    return tuple([1 if at + 1 in columns else 0 for at in range(side)])


def triangle_of(table):
    """The triangle of a table: in row i the columns whose first i numbers come to 1."""
    must_be_table(table)
    return tuple([columns_of(sums) for sums in sums_down(table)[1:]])


def is_triangle_row(thing, width):
    """Tell of anything whether it is a rising tuple of so many columns."""
    if not is_row(thing, width):
        return False
    if not all([is_within(column, 1, GREATEST_COLUMN) for column in thing]):
        return False
    return all([thing[at - 1] < thing[at] for at in range(1, width)])


def lies_between(row, lower):
    """Tell whether each number of a row lies between the two of the row below that it stands over."""
    return all([lower[at] <= column <= lower[at + 1] for at, column in enumerate(row)])


def is_triangle(thing):
    """Tell of anything whether it is a triangle."""
    if not isinstance(thing, tuple) or not 1 <= len(thing) <= MOST_ROWS:
        return False
    if not all([is_triangle_row(row, at + 1) for at, row in enumerate(thing)]):
        return False
    return all([lies_between(thing[at - 1], thing[at]) for at in range(1, len(thing))])


def table_of_triangle(triangle):
    """The table whose triangle this is."""
    if not is_triangle(triangle):
        raise NoTriangle("this is no triangle")
    side = len(triangle)
    if triangle[-1] != tuple(range(1, side + 1)):
        raise NoTriangle("the last row of the triangle isn't 1, 2 and so on")
    return rises_down(tuple([sums_by(columns, side) for columns in ((),) + triangle]))


def must_be_last_row(thing):
    """Refuse what is no last row of a triangle."""
    if not isinstance(thing, tuple) or not 1 <= len(thing) <= MOST_ROWS:
        raise NoRow("a last row is a tuple of one to six numbers")
    if not is_triangle_row(thing, len(thing)):
        raise NoRow("a last row has whole numbers from 1 to 8 that rise")


def rows_over(row):
    """All rows that can stand straight over this one in a triangle."""
    rows = [()]
    for at in range(1, len(row)):
        # Each begun row ends at row[at - 1] at most: what it hasn't yet is greater than all of it.
        rows = [
            begun + (column,)
            for begun in rows
            for column in range(row[at - 1], row[at] + 1)
            if column not in begun
        ]
    return rows


def counted_over(counts):
    """How many ways lead up to each row that stands over these, by how many lead up to each of these."""
    over = {}
    for row, many in counts.items():
        for upper in rows_over(row):
            over[upper] = over.get(upper, 0) + many
    return over


def many_triangles(row):
    """How many triangles have this last row."""
    must_be_last_row(row)
    # Triangles that are alike from some row up are counted together, not one by one.
    counts = {row: 1}
    for level in range(1, len(row)):
        counts = counted_over(counts)
    return sum(counts.values())


def all_triangles(row):
    """All triangles with this last row, rising."""
    must_be_last_row(row)
    if len(row) > MOST_TOLD:
        raise TooMany("triangles are told of last rows of at most four numbers")
    begun = [(row,)]
    for level in range(1, len(row)):
        begun = [(upper,) + lower for lower in begun for upper in rows_over(lower[0])]
    return sorted(begun)
