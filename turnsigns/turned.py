"""Tables turned about and mirrored, and those that stay as they are."""

from turnsigns.counts import GREATEST_TOLD, all_tables, must_be_within
from turnsigns.errors import NoTurn
from turnsigns.grids import flipped
from turnsigns.tables import must_be_table


def stayed(table):
    """The table as it is."""
    return table


def turned_left(table):
    """The table by a quarter against the clock: its last column becomes its first row."""
    return flipped(table)[::-1]


def turned_half(table):
    """The table turned left twice."""
    return turned_left(turned_left(table))


def turned_right(table):
    """The table turned left three times."""
    return turned_left(turned_half(table))


def told_upright(table):
    """The table with each row backwards."""
    return tuple([row[::-1] for row in table])


def told_flat(table):
    """The table with its rows from the last to the first."""
    return table[::-1]


def told_slant(table):
    """The table with its rows as columns."""
    return flipped(table)


def told_other(table):
    """The table with its rows as columns, then turned by half."""
    return turned_half(told_slant(table))


TURNS = {
    "stay": stayed,
    "left": turned_left,
    "half": turned_half,
    "right": turned_right,
    "upright": told_upright,
    "flat": told_flat,
    "slant": told_slant,
    "other": told_other,
}


def is_turn(thing):
    """Tell of anything whether it is a word for a turn."""
    # What can't be a key can't be asked of the dict, so texts alone are.
    return isinstance(thing, str) and thing in TURNS


def must_be_turn(thing):
    """Refuse what is no word for a turn."""
    if not is_turn(thing):
        raise NoTurn("this is no turn")


def brought(table, turn):
    """The table turned, where both are known to be right."""
    deed = TURNS[turn]
    return deed(table)


def turned(table, turn):
    """The table turned."""
    must_be_table(table)
    must_be_turn(turn)
    return brought(table, turn)


def own_turns(table):
    """The turns that leave a table as it is."""
    must_be_table(table)
    return [turn for turn in TURNS if brought(table, turn) == table]


def least_turned(table):
    """The least of all tables that a table is turned to."""
    must_be_table(table)
    return min([brought(table, turn) for turn in TURNS])


def left_so(side, turn):
    """All tables of a side that a turn leaves as they are, rising."""
    must_be_within(side, 1, GREATEST_TOLD, "side")
    must_be_turn(turn)
    return [table for table in all_tables(side) if brought(table, turn) == table]
