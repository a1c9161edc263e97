"""Nets of arrows about the squares of a table, and the kinds of squares."""

from turnsigns.errors import NoNet, NoPlace
from turnsigns.grids import is_grid, is_within, rises_across, sums_across, sums_down
from turnsigns.tables import GREATEST_SIDE, is_table, must_be_table


def spun(table):
    """The net of what is known to be a table."""
    return (sums_across(table), sums_down(table))


def has_net_shape(thing):
    """Tell of anything whether it has two halves of whole numbers that fit one side."""
    if not isinstance(thing, tuple) or len(thing) != 2:
        return False
    across, down = thing
    if not isinstance(across, tuple) or not 1 <= len(across) <= GREATEST_SIDE:
        return False
    side = len(across)
    return is_grid(across, side, side + 1) and is_grid(down, side + 1, side)


def net_of(table):
    """The net of a table: its numbers across and its numbers down."""
    must_be_table(table)
    return spun(table)


def is_net(thing):
    """Tell of anything whether it is the net of some table."""
    if not has_net_shape(thing):
        return False
    table = rises_across(thing[0])
    # One half makes the table already; the other half must be of the same one.
    return is_table(table) and spun(table) == thing


def table_of_net(net):
    """The table whose net this is."""
    if not is_net(net):
        raise NoNet("this is no net of a table")
    return rises_across(net[0])


def is_place(thing, side):
    """Tell of anything whether it numbers a row, or a column, of a table of that side."""
    return is_within(thing, 0, side - 1)


def kind_in(net, row, column):
    """The numbers of a net to the left of a square, to its right, above it, below it."""
    across, down = net
    return (across[row][column], across[row][column + 1], down[row][column], down[row + 1][column])


def kind_at(table, row, column):
    """The kind of a square of a table, row and column from 0."""
    must_be_table(table)
    if not is_place(row, len(table)):
        raise NoPlace("the table has no such row")
    if not is_place(column, len(table)):
        raise NoPlace("the table has no such column")
    return kind_in(spun(table), row, column)


def kinds_of(table):
    """How often each kind of square comes in a table, by kind."""
    must_be_table(table)
    net = spun(table)
    counts = {}
    for row in range(len(table)):
        for column in range(len(table)):
            kind = kind_in(net, row, column)
            counts[kind] = counts.get(kind, 0) + 1
    return counts
