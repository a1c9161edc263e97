"""Weights of tables: how many -1 they have, their turned pairs, and sums over all tables of a side."""

from turnsigns.counts import added, must_be_within, rows_on
from turnsigns.tables import must_be_table

GREATEST_WEIGHED = 5
GREATEST_FACTOR = 9


def minus_many(table):
    """How many -1 a table has."""
    must_be_table(table)
    return sum([row.count(-1) for row in table])


def turned_pairs(table):
    """The sum, over all two rows and two columns, of the lower left number times the upper right one."""
    must_be_table(table)
    side = len(table)
    return sum([
        table[lower][left] * table[upper][right]
        for upper in range(side)
        for lower in range(upper + 1, side)
        for left in range(side)
        for right in range(left + 1, side)
    ])


def row_further(counts):
    """How many begun tables there are with one more row, by the sums of their columns and their -1."""
    further = {}
    for (sums, minus), many in counts.items():
        for row in rows_on(sums):
            key = (added(sums, row), minus + row.count(-1))
            further[key] = further.get(key, 0) + many
    return further


def counted_by_minus(side):
    """How many tables of what is known to be a side have so many -1, at each number of them."""
    # Tables that are begun alike, by sums and -1, are counted together, not one by one.
    counts = {((0,) * side, 0): 1}
    for level in range(side):
        counts = row_further(counts)
    # Behind the last row all sums are 1, so no two keys have the same number of -1.
    by_many = {minus: many for (sums, minus), many in counts.items()}
    return [by_many.get(minus, 0) for minus in range(max(by_many) + 1)]


def by_minus(side):
    """How many tables of a side have -1 not at all, once, twice, and so on to the most that comes."""
    must_be_within(side, 1, GREATEST_WEIGHED, "side")
    return counted_by_minus(side)


def weighed(side, x):
    """The sum, over all tables of a side, of x multiplied by itself as often as the table has -1."""
    must_be_within(side, 1, GREATEST_WEIGHED, "side")
    must_be_within(x, -GREATEST_FACTOR, GREATEST_FACTOR, "number x")
    total = 0
    for many in reversed(counted_by_minus(side)):
        total = total * x + many
    return total
