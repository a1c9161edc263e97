"""What the tests share: all tables, told by the plain words of the document, and wrong things.

Nothing here uses the program, so that the tests hold it against something else.
"""

from itertools import combinations, product
from random import Random

CROSS = ((0, 1, 0), (1, -1, 1), (0, 1, 0))
SIDES = (1, 2, 3, 4, 5, 6)


def takes_turns(line):
    """What isn't 0 is by turns 1 and -1, the first and the last being 1."""
    signs = [number for number in line if number != 0]
    if len(signs) % 2 == 0:
        return False
    return signs == [1 if at % 2 == 0 else -1 for at in range(len(signs))]


def build_tables(side):
    """All tables of a side, row behind row; a column may not hold 1 behind 1 or -1 behind -1."""
    rows = [row for row in product((-1, 0, 1), repeat=side) if takes_turns(row)]
    begun = [()]
    for _ in range(side):
        begun = [start + (row,) for start in begun for row in rows if fits(start, row)]
    return [table for table in begun if all(takes_turns(column) for column in zip(*table))]


def fits(start, row):
    for at, number in enumerate(row):
        sum_above = sum(above[at] for above in start)
        if sum_above + number not in (0, 1):
            return False
    return True


TABLES = {side: build_tables(side) for side in SIDES}
ALL_TABLES = [table for side in SIDES for table in TABLES[side]]


def few_tables(side):
    """Some tables of a side: the outermost ones and such with -1."""
    tables = TABLES[side]
    with_minus = [table for table in tables if any(-1 in row for row in table)]
    most_minus = sorted(with_minus, key=lambda table: sum(row.count(-1) for row in table))
    return list(dict.fromkeys([tables[0], tables[-1]] + with_minus[:1] + most_minus[-1:]))


SOME_TABLES = [table for side in SIDES for table in few_tables(side)]


def unit_table(side):
    return tuple(tuple(1 if i == j else 0 for j in range(side)) for i in range(side))


def plain_heights(table):
    many = len(table) + 1
    return tuple(
        tuple(sum(table[r][c] for r in range(i) for c in range(j)) for j in range(many)) for i in range(many)
    )


def plain_net(table):
    side = len(table)
    across = tuple(tuple(sum(table[i][c] for c in range(j)) for j in range(side + 1)) for i in range(side))
    down = tuple(tuple(sum(table[r][j] for r in range(i)) for j in range(side)) for i in range(side + 1))
    return (across, down)


def plain_kind(table, row, column):
    left = sum(table[row][:column])
    right = sum(table[row][: column + 1])
    above = sum(line[column] for line in table[:row])
    below = sum(line[column] for line in table[: row + 1])
    return (left, right, above, below)


# By their written form, for 1 == True, but "1" isn't "True".
TABLE_FORMS = {repr(table) for table in ALL_TABLES}
HEIGHTS_FORMS = {repr(plain_heights(table)) for table in ALL_TABLES}
NET_FORMS = {repr(plain_net(table)) for table in ALL_TABLES}

ATOMS = (None, True, False, 0, 1, -1, 2, 7, 10**30 - 1, 1 - 10**30, "", "0", "1", "+", "0+0/+-+/0+0")


def wrapped(thing):
    """Things that hold this one, one deeper."""
    told = [[thing], (thing,), {"a": thing}, {1: thing, 2: thing}, [thing, 1], (0, thing), (thing, thing)]
    if not isinstance(thing, (list, dict)):
        told.append([thing, thing, thing])
    return told


def build_strange():
    """Things of other kinds, from one to six deep; no table, heights or net among them."""
    told = [[], (), {}, ((),), [[]], ((), ()), [(1,)], ([1],), (((1,),),), {(1,): (1,)}] + list(ATOMS)
    for atom in ATOMS:
        deeper = [atom]
        for depth in range(5):
            # A step that shares nothing with how many wrappings there are takes each of them.
            deeper = [other for thing in deeper for other in wrapped(thing)][depth % 3 :: 3][:30]
            told.extend(deeper)
    right = TABLE_FORMS | HEIGHTS_FORMS | NET_FORMS
    return [thing for thing in told if repr(thing) not in right]


STRANGE = build_strange()


def otherwise_number(number):
    return [number + 1, number - 1, number + 2, -number, number == 1, number != 1, str(number), 10**29]


def otherwise(thing):
    """Things like this one, of tuples and numbers, with one thing in it otherwise."""
    for other in (None, True, False, "", "1", [], (), {}, [1], (1,), 0, 1, -1):
        yield other
    if not isinstance(thing, tuple):
        yield from otherwise_number(thing)
        return
    yield list(thing)
    yield dict(enumerate(thing))
    yield str(thing)
    yield (thing,)
    for at in range(len(thing)):
        head, part, tail = thing[:at], thing[at], thing[at + 1 :]
        yield head + tail
        yield head + (part, part) + tail
        for later in range(at + 1, len(thing)):
            yield head + (thing[later],) + thing[at + 1 : later] + (part,) + thing[later + 1 :]
        for other in otherwise(part):
            yield head + (other,) + tail


def refusal(deed, *things):
    """The error that a deed tells of these things, or None."""
    try:
        deed(*things)
    except Exception as error:
        return error
    return None


def is_number_to(thing, greatest):
    """Whether it is a whole number from 1 to greatest, by its very class."""
    return type(thing) is int and 1 <= thing <= greatest


def plain_is_row(thing, width):
    """Whether it is a rising tuple of so many whole numbers from 1 to 8."""
    if type(thing) is not tuple or len(thing) != width or not all(is_number_to(number, 8) for number in thing):
        return False
    return list(thing) == sorted(set(thing))


def plain_is_last_row(thing):
    return type(thing) is tuple and 1 <= len(thing) <= 6 and plain_is_row(thing, len(thing))


def plain_is_triangle(thing):
    if type(thing) is not tuple or not 1 <= len(thing) <= 6:
        return False
    for many, row in enumerate(thing, 1):
        if not plain_is_row(row, many):
            return False
    return all(stands_over(upper, lower) for upper, lower in zip(thing, thing[1:]))


def stands_over(upper, lower):
    for at in range(len(upper)):
        if upper[at] < lower[at] or upper[at] > lower[at + 1]:
            return False
    return True


def plain_triangle(table):
    told = []
    for many in range(1, len(table) + 1):
        sums = [sum(column[:many]) for column in zip(*table)]
        told.append(tuple(at for at, total in enumerate(sums, 1) if total == 1))
    return tuple(told)


LAST_ROWS = [row for many in range(1, 7) for row in combinations(range(1, 9), many)]
ROWS_OVER = {
    row: [upper for upper in combinations(range(row[0], row[-1] + 1), len(row) - 1) if stands_over(upper, row)]
    for row in LAST_ROWS
    if len(row) > 1
}


def plain_triangles(row):
    """Each triangle with a last row, one by one."""
    if len(row) == 1:
        yield (row,)
        return
    for upper in ROWS_OVER[row]:
        for head in plain_triangles(upper):
            yield head + (row,)


TURNS = ("stay", "left", "half", "right", "upright", "flat", "slant", "other")


def plain_turned(table, turn):
    """The table turned, square by square."""
    last = len(table) - 1
    squares = {
        "stay": lambda i, j: table[i][j],
        "left": lambda i, j: table[j][last - i],
        "half": lambda i, j: table[last - i][last - j],
        "right": lambda i, j: table[last - j][i],
        "upright": lambda i, j: table[i][last - j],
        "flat": lambda i, j: table[last - i][j],
        "slant": lambda i, j: table[j][i],
        "other": lambda i, j: table[last - j][last - i],
    }
    square = squares[turn]
    return tuple(tuple(square(i, j) for j in range(last + 1)) for i in range(last + 1))


HEIGHTS = {table: plain_heights(table) for table in ALL_TABLES}
BY_HEIGHTS = {heights: table for table, heights in HEIGHTS.items()}


def plain_is_below(one, other):
    return all(a >= b for row, line in zip(HEIGHTS[one], HEIGHTS[other]) for a, b in zip(row, line))


def plain_steps(table):
    """The places at which the height can be less by 1, each with the table behind that step."""
    heights = HEIGHTS[table]
    told = {}
    for row, column in product(range(1, len(table)), repeat=2):
        lower = [list(line) for line in heights]
        lower[row][column] -= 1
        behind = BY_HEIGHTS.get(tuple(tuple(line) for line in lower))
        if behind is not None:
            told[(row, column)] = behind
    return told


def drawn_tables(side, many):
    """Some tables of a side, drawn the same each time."""
    return Random(side).sample(TABLES[side], min(many, len(TABLES[side])))


def not_tables():
    """Things of other kinds, and tables with one thing otherwise."""
    things = STRANGE + list(otherwise(CROSS)) + list(otherwise(((1,),))) + [unit_table(7), plain_net(CROSS)]
    return [thing for thing in things if repr(thing) not in TABLE_FORMS]


NOT_TABLES = not_tables()


def not_numbers(least, greatest):
    """Things that are no whole number from least to greatest: one beyond each bound, and other kinds."""
    things = STRANGE + [least - 1, greatest + 1, -least, -greatest - 1, str(least), (least,), [greatest], 10**29]
    return [thing for thing in things if type(thing) is not int or not least <= thing <= greatest]


def plain_minus(table):
    return sum(number == -1 for row in table for number in row)


def plain_pairs(table):
    """Over all two rows and two columns: the lower left number times the upper right one."""
    told = 0
    for upper, lower in combinations(table, 2):
        for left, right in combinations(range(len(table)), 2):
            told += lower[left] * upper[right]
    return told


def plain_text(table):
    return "/".join("".join("-0+"[number + 1] for number in row) for row in table)


TEXTS = {plain_text(table): table for table in ALL_TABLES}


def plain_numbers():
    """Each table with how many of its side are less."""
    return {table: number for side in SIDES for number, table in enumerate(sorted(TABLES[side]))}


def plain_steps_up(table):
    """How many steps there are at least from the lowest table of its side."""
    lowest = HEIGHTS[unit_table(len(table))]
    return sum(map(sum, lowest)) - sum(map(sum, HEIGHTS[table]))


def plain_both_below(one, other):
    heights = zip(HEIGHTS[one], HEIGHTS[other])
    return BY_HEIGHTS[tuple(tuple(map(max, row, line)) for row, line in heights)]


def plain_both_above(one, other):
    heights = zip(HEIGHTS[one], HEIGHTS[other])
    return BY_HEIGHTS[tuple(tuple(map(min, row, line)) for row, line in heights)]


def otherwise_text(text):
    """Texts like this one, with one sign more, less or other, or with two exchanged."""
    signs = "+-0/1 a\\|~,.\n\t"
    for at in range(len(text) + 1):
        head, tail = text[:at], text[at:]
        yield from (head + sign + tail for sign in signs)
        if tail:
            yield head + tail[1:]
            yield from (head + sign + tail[1:] for sign in signs)
        if len(tail) > 1:
            yield head + tail[1] + tail[0] + tail[2:]
