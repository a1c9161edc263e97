"""Tables written as texts, and read again."""

from turnsigns.errors import BadNote
from turnsigns.tables import is_table, must_be_table

SIGNS = {1: "+", -1: "-", 0: "0"}
NUMBERS = {"+": 1, "-": -1, "0": 0}


def table_text(table):
    """The text that writes a table."""
    must_be_table(table)
    return "/".join(["".join([SIGNS[number] for number in row]) for row in table])


def unwritten(text):
    """The rows of numbers that a text of signs writes."""
    return tuple([tuple([NUMBERS[sign] for sign in row]) for row in text.split("/")])


def is_note(thing):
    """Tell of anything whether it is a text that writes a table."""
    if not isinstance(thing, str):
        return False
    if not all([sign == "/" or sign in NUMBERS for sign in thing]):
        return False
    return is_table(unwritten(thing))


def table_read(text):
    """The table that a text writes."""
    if not is_note(text):
        raise BadNote("this is no text of a table")
    return unwritten(text)
