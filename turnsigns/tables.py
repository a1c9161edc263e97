"""Tables of signs that take turns, and their heights."""

from turnsigns.errors import NoHeights, NoTable
from turnsigns.grids import flipped, is_square, rises_across, rises_down, sums_across, sums_down

GREATEST_SIDE = 6


def takes_turns(line):
    """Tell whether what isn't 0 in a line of numbers is by turns 1 and -1, from 1 to 1."""
    # Sums that never leave 0 and 1 can change by 1 and -1 alone, and by turns.
    total = 0
    for number in line:
        total += number
        if total not in (0, 1):
            return False
    return total == 1


def is_table(thing):
    """Tell of anything whether it is a table."""
    if not is_square(thing, 1, GREATEST_SIDE):
        return False
    return all([takes_turns(line) for line in thing + flipped(thing)])


def must_be_table(thing):
    """Refuse what is no table."""
    if not is_table(thing):
        raise NoTable("this is no table")


def summed(table):
    """The heights of what is known to be a table."""
    return sums_across(sums_down(table))


def unsummed(heights):
    """The grid of which these would be the heights."""
    return rises_across(rises_down(heights))


def heights_of(table):
    """The heights of a table."""
    must_be_table(table)
    return summed(table)


def is_heights(thing):
    """Tell of anything whether it is heights of some table."""
    if not is_square(thing, 2, GREATEST_SIDE + 1):
        return False
    table = unsummed(thing)
    # The rises don't show where the sums began, so they are summed again.
    return is_table(table) and summed(table) == thing


def table_by(heights):
    """The table whose heights these are."""
    if not is_heights(heights):
        raise NoHeights("these are no heights of a table")
    return unsummed(heights)
