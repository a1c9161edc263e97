"""How many tables there are of a side, all of them, and their numbers among them."""

from turnsigns.errors import NoNumber
from turnsigns.grids import is_within, sums_down
from turnsigns.tables import GREATEST_SIDE, must_be_table

GREATEST_COUNTED = 40
GREATEST_TOLD = 4


def must_be_within(thing, least, greatest, name):
    """Refuse what is no whole number from least to greatest; the name tells what it was to be."""
    if not is_within(thing, least, greatest):
        raise NoNumber(f"the {name} must be a whole number from {least} to {greatest}")


def factorial(number):
    """The product of all whole numbers from 1 to this one."""
    product = 1
    for factor in range(2, number + 1):
        product *= factor
    return product


def counted(side):
    """How many tables there are of what is known to be a side."""
    top = 1
    bottom = 1
    for at in range(side):
        top *= factorial(3 * at + 1)
        bottom *= factorial(side + at)
    # The single fractions aren't whole, their product is.
    return top // bottom


def many_tables(side):
    """How many tables there are of a side."""
    must_be_within(side, 1, GREATEST_COUNTED, "side")
    return counted(side)


def many_first(side, column):
    """How many tables of a side have the 1 of their first row at a column, from 1."""
    must_be_within(side, 1, GREATEST_COUNTED, "side")
    must_be_within(column, 1, side, "column")
    if side == 1:
        return 1
    many = counted(side - 1)
    for at in range(1, column):
        many = many * (side - at) * (side + at - 1) // (at * (2 * side - at - 1))
    return many


def rows_on(sums):
    """The rows that can come next where the columns come to these sums so far, rising."""
    rows = [()]
    for above in sums:
        rows = [
            row + (number,)
            for row in rows
            for number in (-1, 0, 1)
            if above + number in (0, 1) and sum(row) + number in (0, 1)
        ]
    return [row for row in rows if sum(row) == 1]


def added(sums, row):
    """What the columns come to with one more row."""
    return tuple([above + number for above, number in zip(sums, row)])


def choices_on(sums, known):
    """The rows that can come next, rising, each with how many tables go on from it."""
    return [(row, ways_on(added(sums, row), known)) for row in rows_on(sums)]


def ways_on(sums, known):
    """How many tables go on where the columns come to these sums; known keeps what was found."""
    if 0 not in sums:
        return 1
    # How a table goes on hangs on the sums alone, not on the rows that made them.
    if sums not in known:
        known[sums] = sum([ways for row, ways in choices_on(sums, known)])
    return known[sums]


def chosen(choices, number):
    """The row of the table of that number among these choices, and its number among those of the row."""
    at = 0
    while number >= choices[at][1]:
        number -= choices[at][1]
        at += 1
    return (choices[at][0], number)


def laid(side, number, known):
    """The table of a side and a number that are known to be right."""
    rows = []
    sums = (0,) * side
    while 0 in sums:
        row, number = chosen(choices_on(sums, known), number)
        rows.append(row)
        sums = added(sums, row)
    return tuple(rows)


def all_tables(side):
    """All tables of a side, rising."""
    must_be_within(side, 1, GREATEST_TOLD, "side")
    known = {}
    return [laid(side, number, known) for number in range(counted(side))]


def number_of(table):
    """How many tables of its side are less than a table."""
    must_be_table(table)
    known = {}
    number = 0
    for sums, row in zip(sums_down(table), table):
        number += sum([ways for other, ways in choices_on(sums, known) if other < row])
    return number


def table_at(side, number):
    """The table of a side of which so many of that side are less."""
    must_be_within(side, 1, GREATEST_SIDE, "side")
    must_be_within(number, 0, counted(side) - 1, "number")
    return laid(side, number, {})
