"""Grids, which tables, heights and nets are made of: tuples of rows of whole numbers."""


def is_whole(thing):
    """Tell whether it is a whole number; a truth is none, though Python counts it among them."""
    return isinstance(thing, int) and not isinstance(thing, bool)


def is_within(thing, least, greatest):
    """Tell of anything whether it is a whole number from least to greatest."""
    return is_whole(thing) and least <= thing <= greatest


def is_row(thing, width):
    """Tell whether it is a tuple of so many whole numbers."""
    if not isinstance(thing, tuple) or len(thing) != width:
        return False
    return all([is_whole(number) for number in thing])


def is_grid(thing, many, width):
    """Tell whether it is a tuple of so many rows of that width."""
    if not isinstance(thing, tuple) or len(thing) != many:
        return False
    return all([is_row(row, width) for row in thing])


def is_square(thing, least, greatest):
    """Tell whether it is a grid as wide as high, its side from least to greatest."""
    if not isinstance(thing, tuple) or not least <= len(thing) <= greatest:
        return False
    return is_grid(thing, len(thing), len(thing))


def flipped(grid):
    """The grid whose rows are the columns of this one."""
    return tuple([tuple([row[at] for row in grid]) for at in range(len(grid[0]))])


def running_sums(row):
    """The sums of the first numbers of a row: of none, of one, and so on to all."""
    sums = [0]
    for number in row:
        sums.append(sums[-1] + number)
    return tuple(sums)


def rises(row):
    """By how much each number but the first is more than the one ahead."""
    return tuple([row[at] - row[at - 1] for at in range(1, len(row))])


def sums_across(grid):
    """The running sums of each row, as rows."""
    return tuple([running_sums(row) for row in grid])


def sums_down(grid):
    """The running sums of each column, as columns."""
    return flipped(sums_across(flipped(grid)))


def rises_across(grid):
    """The rises of each row, as rows."""
    return tuple([rises(row) for row in grid])


def rises_down(grid):
    """The rises of each column, as columns."""
    return flipped(rises_across(flipped(grid)))
