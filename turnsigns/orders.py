"""Tables above and below one another by their heights, and the steps up from one to the next."""

from turnsigns.errors import NoStep, NotAlike
from turnsigns.grids import is_row
from turnsigns.tables import must_be_table, summed, unsummed


def heights_of_both(one, other):
    """The heights of two tables of one side, as a tuple of two."""
    must_be_table(one)
    must_be_table(other)
    if len(one) != len(other):
        raise NotAlike("the tables have unlike sides")
    return (summed(one), summed(other))


def pairs_of(one, other):
    """Two grids of one shape as rows of pairs."""
    return [list(zip(row, line)) for row, line in zip(one, other)]


def is_below(one, other):
    """Tell whether one table lies below another one, or is it."""
    heights, others = heights_of_both(one, other)
    # The lower table has the greater heights.
    return all([height >= beside for row in pairs_of(heights, others) for height, beside in row])


def both_below(one, other):
    """The highest table that lies below both."""
    heights, others = heights_of_both(one, other)
    return unsummed(tuple([tuple([max(pair) for pair in row]) for row in pairs_of(heights, others)]))


def both_above(one, other):
    """The lowest table that lies above both."""
    heights, others = heights_of_both(one, other)
    return unsummed(tuple([tuple([min(pair) for pair in row]) for row in pairs_of(heights, others)]))


def can_fall(heights, row, column):
    """Tell whether the height at a place can be less by 1, so that it still rises by 0 or 1 about it."""
    height = heights[row][column]
    # Ahead of the place it must have risen, and behind it must not rise yet.
    ahead = (heights[row - 1][column], heights[row][column - 1])
    behind = (heights[row + 1][column], heights[row][column + 1])
    return ahead == (height - 1, height - 1) and behind == (height, height)


def steps_in(heights):
    """The places at which these heights can fall, rising."""
    inner = list(range(1, len(heights) - 1))
    return [(row, column) for row in inner for column in inner if can_fall(heights, row, column)]


def fallen(heights, place):
    """The heights with that at one place less by 1."""
    row, column = place
    line = heights[row]
    lower = line[:column] + (line[column] - 1,) + line[column + 1:]
    return heights[:row] + (lower,) + heights[row + 1:]


def steps_of(table):
    """The places of all steps up from a table, rising."""
    must_be_table(table)
    return steps_in(summed(table))


def stepped(table, place):
    """The table behind the step at a place."""
    must_be_table(table)
    heights = summed(table)
    # Python holds True for 1, so the numbers are looked at ahead of the places.
    if not is_row(place, 2) or place not in steps_in(heights):
        raise NoStep("no step of the table goes up there")
    return unsummed(fallen(heights, place))


def lowest_total(side):
    """What the heights of the lowest table of a side come to."""
    places = list(range(side + 1))
    return sum([min(row, column) for row in places for column in places])


def steps_from_lowest(table):
    """How many steps there are at least from the lowest table of its side to a table."""
    must_be_table(table)
    return lowest_total(len(table)) - sum([sum(row) for row in summed(table)])
