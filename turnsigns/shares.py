"""First rows of tables: how many tables begin so, their share, and the rows that can come next."""

from turnsigns.counts import added, choices_on, counted, must_be_within, rows_on, ways_on
from turnsigns.errors import NoRows
from turnsigns.grids import is_grid
from turnsigns.tables import GREATEST_SIDE


def is_rows(thing, width):
    """Tell of anything whether it is a tuple of rows of that width, however many."""
    return isinstance(thing, tuple) and is_grid(thing, len(thing), width)


def sums_behind(side, rows):
    """What the columns come to behind first rows of a side; what are none is refused."""
    must_be_within(side, 1, GREATEST_SIDE, "side")
    # Python holds True for 1, so the numbers are looked at ahead of the rows.
    if not is_rows(rows, side):
        raise NoRows("first rows are a tuple of rows as wide as the side")
    sums = (0,) * side
    for row in rows:
        # Some table goes on from each row that can come next, for a column of sum 0 is left until the last.
        if row not in rows_on(sums):
            raise NoRows("no table of the side begins with these rows")
        sums = added(sums, row)
    return sums


def fraction(top, bottom):
    """The fraction in lowest terms."""
    common, rest = top, bottom
    while rest > 0:
        common, rest = rest, common % rest
    return (top // common, bottom // common)


def many_so(side, rows):
    """How many tables of a side begin with these rows."""
    return ways_on(sums_behind(side, rows), {})


def share_so(side, rows):
    """The share of all tables of a side that begin with these rows."""
    return fraction(many_so(side, rows), counted(side))


def next_rows(side, rows):
    """The rows that can come next, rising, each with its share of all tables that begin so."""
    sums = sums_behind(side, rows)
    known = {}
    many = ways_on(sums, known)
    return [(row, fraction(ways, many)) for row, ways in choices_on(sums, known)]
