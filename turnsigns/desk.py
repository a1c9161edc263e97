"""A desk that keeps tables by names, is told lines, and answers with texts."""

from turnsigns.counts import number_of
from turnsigns.errors import BadNote, NoTable
from turnsigns.notes import is_note, table_read, table_text
from turnsigns.orders import both_above, both_below, is_below, stepped, steps_from_lowest
from turnsigns.turned import is_turn, turned
from turnsigns.weights import minus_many, turned_pairs

LETTERS = "abcdefghijklmnopqrstuvwxyz"
FIGURES = "0123456789"
LONGEST_NAME = 8

# By a line's first word what stands behind it: an old name is one that is kept, a new one is kept from then on.
LINES = {
    "table": ("new", "text"),
    "turn": ("old", "turn", "new"),
    "up": ("old", "figure", "figure", "new"),
    "join": ("old", "old", "new"),
    "meet": ("old", "old", "new"),
    "kept": (),
    "show": ("old",),
    "number": ("old",),
    "minus": ("old",),
    "pairs": ("old",),
    "steps": ("old",),
    "below": ("old", "old"),
}


def is_name(word):
    """Tell whether a word is a name."""
    return 1 <= len(word) <= LONGEST_NAME and all([sign in LETTERS for sign in word])


def is_figure(word):
    """Tell whether a word is a single figure."""
    return len(word) == 1 and word in FIGURES


def is_part(word, part):
    """Tell whether a word can stand as that part of a line."""
    if part == "text":
        return is_note(word)
    if part == "turn":
        return is_turn(word)
    if part == "figure":
        return is_figure(word)
    return is_name(word)


def is_line(words):
    """Tell whether these words are a line that a desk takes."""
    if words[0] not in LINES:
        return False
    parts = LINES[words[0]]
    if len(words) != len(parts) + 1:
        return False
    return all([is_part(word, part) for word, part in zip(words[1:], parts)])


def words_of(line):
    """The words of a line; what is no line is refused."""
    if not isinstance(line, str):
        raise BadNote("a line is a text")
    words = line.split(" ")
    if not is_line(words):
        raise BadNote("this is no line that a desk takes")
    return words


def words_as(words, parts):
    """Those words of a line that stand as one of these parts."""
    return [word for word, part in zip(words[1:], LINES[words[0]]) if part in parts]


def read_table(tables, words):
    """The table that a text writes."""
    return table_read(words[0])


def turn_table(tables, words):
    """The table turned."""
    return turned(tables[0], words[0])


def step_table(tables, words):
    """The table behind a step."""
    return stepped(tables[0], (int(words[0]), int(words[1])))


def join_tables(tables, words):
    """The lowest table above both."""
    return both_above(tables[0], tables[1])


def meet_tables(tables, words):
    """The highest table below both."""
    return both_below(tables[0], tables[1])


def tell_text(tables):
    """The table's text."""
    return table_text(tables[0])


def tell_number(tables):
    """The table's number, in figures."""
    return str(number_of(tables[0]))


def tell_minus(tables):
    """How many -1 the table has, in figures."""
    return str(minus_many(tables[0]))


def tell_pairs(tables):
    """The table's turned pairs, in figures."""
    return str(turned_pairs(tables[0]))


def tell_steps(tables):
    """How many steps there are from the lowest table, in figures."""
    return str(steps_from_lowest(tables[0]))


def tell_below(tables):
    """Whether the first table lies below the second one, or is it."""
    return "yes" if is_below(tables[0], tables[1]) else "no"


MAKING = {"table": read_table, "turn": turn_table, "up": step_table, "join": join_tables, "meet": meet_tables}
TELLING = {
    "show": tell_text,
    "number": tell_number,
    "minus": tell_minus,
    "pairs": tell_pairs,
    "steps": tell_steps,
    "below": tell_below,
}


class Desk:
    """A desk, with tables that it keeps by names."""

    def __init__(self):
        self.by_name = {}

    def say(self, line):
        """Do what a line asks, and answer it."""
        words = words_of(line)
        word = words[0]
        if word == "kept":
            return " ".join(sorted(self.by_name))
        tables = [self.table_kept(name) for name in words_as(words, ("old",))]
        if word in TELLING:
            tell = TELLING[word]
            return tell(tables)
        make = MAKING[word]
        made = make(tables, words_as(words, ("text", "turn", "figure")))
        # Nothing is kept until all that can be refused has been looked at.
        self.by_name[words_as(words, ("new",))[0]] = made
        return "ok"

    def table_kept(self, name):
        """The table that is kept by a name."""
        if name not in self.by_name:
            raise NoTable("no table is kept by that name")
        return self.by_name[name]
