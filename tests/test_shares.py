"""Points 80 and 81: tables that begin with some rows, and the interface's row shares.py."""

import inspect
import unittest
from collections import Counter
from fractions import Fraction

import samples
from turnsigns import shares
from turnsigns.errors import NoNumber, NoRows, SignError
from turnsigns.shares import many_so, next_rows, share_so

DEEDS = (many_so, share_so, next_rows)
CROSS_ROWS = samples.CROSS[:2]


def begun_counts(side):
    """By telling all tables: how many begin with each tuple of first rows, none and all of them too."""
    return Counter(table[:many] for table in samples.TABLES[side] for many in range(side + 1))


BEGUN = {side: begun_counts(side) for side in samples.SIDES}
FOLLOWING = {side: {} for side in samples.SIDES}
for of_side, counts_of_side in BEGUN.items():
    for begun in counts_of_side:
        if begun:
            FOLLOWING[of_side].setdefault(begun[:-1], []).append(begun[-1])
# By their written form, for 1 == True, but "1" isn't "True".
BEGUN_FORMS = {side: {repr(rows) for rows in BEGUN[side]} for side in samples.SIDES}


def some_begun(side):
    """First rows of a side: all of small sides, each eleventh of side 6 beside all short ones."""
    told = list(BEGUN[side])
    if side < 6:
        return told
    return [rows for at, rows in enumerate(told) if len(rows) < 3 or at % 11 == 0]


def as_fraction(share):
    return (share.numerator, share.denominator)


def plain_next(side, rows):
    many = BEGUN[side][rows]
    return [
        (row, as_fraction(Fraction(BEGUN[side][rows + (row,)], many)))
        for row in sorted(FOLLOWING[side].get(rows, []))
    ]


def wrong_rows(side):
    """Things with which no table of the side begins."""
    told = list(samples.STRANGE)
    for table in samples.few_tables(side):
        for many in {0, 1, side - 1, side}:
            told.extend(samples.otherwise(table[:many]))
        told.extend([table + (table[0],), table + table, table + ((0,) * side,), (table,)])
    for other in samples.SIDES:
        told.extend([samples.unit_table(other), samples.unit_table(other)[:1], (samples.unit_table(other)[0],) * 2])
    return [thing for thing in told if repr(thing) not in BEGUN_FORMS[side]]


class ManySo(unittest.TestCase):
    def test_written_ones(self):
        self.assertEqual(many_so(1, ()), 1)
        self.assertEqual(many_so(1, ((1,),)), 1)
        self.assertEqual(many_so(2, ((0, 1),)), 1)
        self.assertEqual(many_so(3, ()), 7)
        self.assertEqual(many_so(3, ((0, 1, 0),)), 3)
        self.assertEqual(many_so(3, CROSS_ROWS), 1)
        self.assertEqual(many_so(3, samples.CROSS), 1)
        self.assertEqual(many_so(6, ()), 7436)
        self.assertEqual(many_so(6, ((1, 0, 0, 0, 0, 0),)), 429)

    def test_by_telling_all(self):
        for side in samples.SIDES:
            for rows in some_begun(side):
                self.assertEqual(many_so(side, rows), BEGUN[side][rows], rows)
                self.assertIs(type(many_so(side, rows)), int)


class ShareSo(unittest.TestCase):
    def test_written_ones(self):
        self.assertEqual(share_so(1, ()), (1, 1))
        self.assertEqual(share_so(1, ((1,),)), (1, 1))
        self.assertEqual(share_so(2, ((1, 0),)), (1, 2))
        self.assertEqual(share_so(3, ((0, 1, 0),)), (3, 7))
        self.assertEqual(share_so(4, ((0, 1, 0, 0),)), (1, 3))
        self.assertEqual(share_so(6, ()), (1, 1))
        self.assertEqual(share_so(6, ((0, 0, 0, 0, 1, 0),)), (9, 52))
        self.assertEqual(share_so(6, samples.unit_table(6)), (1, 7436))

    def test_by_telling_all(self):
        for side in samples.SIDES:
            for rows in some_begun(side):
                wanted = as_fraction(Fraction(BEGUN[side][rows], len(samples.TABLES[side])))
                self.assertEqual(repr(share_so(side, rows)), repr(wanted))


class NextRows(unittest.TestCase):
    def test_written_ones(self):
        self.assertEqual(next_rows(1, ()), [((1,), (1, 1))])
        self.assertEqual(next_rows(2, ()), [((0, 1), (1, 2)), ((1, 0), (1, 2))])
        self.assertEqual(next_rows(3, ()), [((0, 0, 1), (2, 7)), ((0, 1, 0), (3, 7)), ((1, 0, 0), (2, 7))])
        wanted = [((0, 0, 1), (1, 3)), ((1, -1, 1), (1, 3)), ((1, 0, 0), (1, 3))]
        self.assertEqual(next_rows(3, ((0, 1, 0),)), wanted)
        self.assertEqual(next_rows(3, CROSS_ROWS), [((0, 1, 0), (1, 1))])

    def test_behind_all_rows_there_are_none(self):
        for table in samples.ALL_TABLES[:481] + samples.few_tables(6):
            self.assertEqual(repr(next_rows(len(table), table)), "[]")

    def test_by_telling_all(self):
        for side in samples.SIDES:
            for rows in some_begun(side):
                self.assertEqual(repr(next_rows(side, rows)), repr(plain_next(side, rows)))

    def test_the_shares_of_the_next_rows_come_to_one(self):
        for side in samples.SIDES:
            for rows in some_begun(side):
                if len(rows) < side:
                    told = [Fraction(*share) for row, share in next_rows(side, rows)]
                    self.assertEqual(sum(told), 1)

    def test_one_behind_the_other_through_all_rows(self):
        for table in samples.ALL_TABLES[:481] + samples.drawn_tables(6, 60):
            side = len(table)
            share = Fraction(1)
            for many, row in enumerate(table):
                share *= Fraction(*dict(next_rows(side, table[:many]))[row])
                self.assertEqual(share_so(side, table[: many + 1]), as_fraction(share))
            self.assertEqual(share, Fraction(1, len(samples.TABLES[side])))


class Refused(unittest.TestCase):
    def test_what_is_no_side_is_refused_ahead_of_rows(self):
        for thing in [0, 7, -1, 40, True, False] + samples.not_numbers(1, 6):
            for rows in ((), ((1,),), ((1, 0), (0, 1)), None, [], "", ((0,),), samples.unit_table(6)):
                for deed in DEEDS:
                    self.assertIs(type(samples.refusal(deed, thing, rows)), NoNumber, thing)

    def test_rows_with_which_no_table_of_the_side_begins(self):
        for side in samples.SIDES:
            for rows in wrong_rows(side):
                for deed in DEEDS:
                    self.assertIs(type(samples.refusal(deed, side, rows)), NoRows, rows)

    def test_written_ones(self):
        wrong = [[], [(0, 1, 0)], ([0, 1, 0],), ((0, True, 0),), ((False, 1, 0),), ((0, 1),), ((0, 1, 0, 0),)]
        wrong += [((0, 0, 0),), ((1, 0, 1),), ((1, -1, 1),), ((-1, 1, 1),), ((0, 2, -1),), ((0, 1, 0), (0, 1, 0))]
        wrong += [(0, 1, 0), ((0, 1, 0), (1, -1, 0)), ((0, 1, 0), (0, -1, 1)), ((0, 1, 0), None), ((),), "", None]
        wrong += [samples.CROSS + ((0, 1, 0),), samples.CROSS + ((0, 0, 0),), CROSS_ROWS + ((1, 0, 0),), {}, 0]
        for rows in wrong:
            for deed in DEEDS:
                self.assertIs(type(samples.refusal(deed, 3, rows)), NoRows, rows)

    def test_a_row_that_no_turn_of_signs_has_is_refused_though_its_columns_fit(self):
        self.assertIs(type(samples.refusal(many_so, 4, ((0, 1, 0, 0), (1, -1, 0, 0)))), NoRows)
        self.assertIs(type(samples.refusal(many_so, 4, ((1, 0, 0, 0), (-1, 1, 1, 0)))), NoRows)
        self.assertIs(type(samples.refusal(many_so, 4, ((0, 0, 0, 1), (1, 1, 0, -1)))), NoRows)


class Interface(unittest.TestCase):
    def test_names_and_arguments(self):
        for name in ("many_so", "share_so", "next_rows"):
            self.assertEqual(list(inspect.signature(getattr(shares, name)).parameters), ["side", "rows"])

    def test_refusals_are_sign_errors_and_value_errors(self):
        for deed in DEEDS:
            for things in ((7, ()), (2, ((1, 1),))):
                told = samples.refusal(deed, *things)
                self.assertIsInstance(told, SignError)
                self.assertIsInstance(told, ValueError)
                self.assertIsInstance(told.args[0], str)


if __name__ == "__main__":
    unittest.main()
