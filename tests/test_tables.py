"""Points 10 and 11: tables and heights, and the interface's row tables.py."""

import inspect
import unittest
from itertools import product

import samples
from turnsigns import tables
from turnsigns.errors import NoHeights, NoTable, SignError
from turnsigns.tables import heights_of, is_heights, is_table, table_by


class IsTable(unittest.TestCase):
    def test_every_table_of_each_side_is_one(self):
        for side, many in zip(samples.SIDES, (1, 2, 7, 42, 429, 7436)):
            self.assertEqual(len(samples.TABLES[side]), many)
            for table in samples.TABLES[side]:
                self.assertIs(is_table(table), True, table)

    def test_written_ones(self):
        self.assertIs(is_table(((1,),)), True)
        self.assertIs(is_table(((0, 1), (1, 0))), True)
        self.assertIs(is_table(samples.CROSS), True)
        self.assertIs(is_table(((1, 1), (0, 0))), False)
        self.assertIs(is_table(((1, 0), (1, 0))), False)
        self.assertIs(is_table(((2, -1), (-1, 2))), False)
        self.assertIs(is_table(((-1, 1, 1), (1, 0, 0), (1, 0, 0))), False)
        self.assertIs(is_table(((1, 1, -1), (0, 0, 1), (0, 0, 1))), False)

    def test_of_all_small_grids_just_the_tables_are_tables(self):
        for side in (1, 2, 3):
            for row in product((-1, 0, 1), repeat=side * side):
                grid = tuple(row[at : at + side] for at in range(0, side * side, side))
                self.assertIs(is_table(grid), grid in samples.TABLES[side], grid)

    def test_none_of_side_0_or_7(self):
        self.assertIs(is_table(()), False)
        self.assertIs(is_table(((),)), False)
        self.assertIs(is_table(samples.unit_table(6)), True)
        self.assertIs(is_table(samples.unit_table(7)), False)

    def test_none_that_is_no_square(self):
        self.assertIs(is_table(((1, 0),)), False)
        self.assertIs(is_table(((1,), (0,))), False)
        self.assertIs(is_table(((1, 0), (0, 1, 0))), False)
        self.assertIs(is_table(((1, 0, 0), (0, 1, 0))), False)

    def test_a_truth_is_no_number(self):
        self.assertIs(is_table(((True,),)), False)
        self.assertIs(is_table(((1, False), (0, 1))), False)
        self.assertIs(is_table(((1, 0), (0, True))), False)

    def test_lists_in_the_place_of_tuples(self):
        self.assertIs(is_table([(1,)]), False)
        self.assertIs(is_table(([1],)), False)
        self.assertIs(is_table([[1, 0], [0, 1]]), False)
        self.assertIs(is_table(((1, 0), [0, 1])), False)

    def test_one_thing_otherwise(self):
        for table in samples.SOME_TABLES:
            for thing in samples.otherwise(table):
                self.assertIs(is_table(thing), repr(thing) in samples.TABLE_FORMS, thing)

    def test_things_of_other_kinds(self):
        for thing in samples.STRANGE:
            self.assertIs(is_table(thing), False, thing)


class HeightsOf(unittest.TestCase):
    def test_written_ones(self):
        self.assertEqual(heights_of(((1,),)), ((0, 0), (0, 1)))
        self.assertEqual(heights_of(((0, 1), (1, 0))), ((0, 0, 0), (0, 0, 1), (0, 1, 2)))
        self.assertEqual(heights_of(samples.CROSS), ((0, 0, 0, 0), (0, 0, 1, 1), (0, 1, 1, 2), (0, 1, 2, 3)))

    def test_they_are_the_sums_as_tuples(self):
        for table in samples.ALL_TABLES:
            self.assertEqual(repr(heights_of(table)), repr(samples.plain_heights(table)))

    def test_what_is_no_table_is_refused(self):
        for thing in samples.STRANGE + list(samples.otherwise(samples.CROSS)) + [samples.unit_table(7)]:
            if repr(thing) not in samples.TABLE_FORMS:
                self.assertIs(type(samples.refusal(heights_of, thing)), NoTable, thing)


class IsHeights(unittest.TestCase):
    def test_heights_of_every_table_are(self):
        for table in samples.ALL_TABLES:
            self.assertIs(is_heights(samples.plain_heights(table)), True, table)

    def test_of_all_small_grids_just_heights_are(self):
        for side, numbers in ((1, range(-2, 4)), (2, range(3))):
            many = (side + 1) ** 2
            for row in product(numbers, repeat=many):
                grid = tuple(row[at : at + side + 1] for at in range(0, many, side + 1))
                self.assertIs(is_heights(grid), repr(grid) in samples.HEIGHTS_FORMS, grid)

    def test_of_all_insides_of_side_3_just_heights_are(self):
        found = 0
        for a, b, c, d in product(range(-1, 5), repeat=4):
            grid = ((0, 0, 0, 0), (0, a, b, 1), (0, c, d, 2), (0, 1, 2, 3))
            self.assertIs(is_heights(grid), repr(grid) in samples.HEIGHTS_FORMS, grid)
            found += is_heights(grid)
        self.assertEqual(found, 7)

    def test_none_of_side_0_or_7(self):
        self.assertIs(is_heights(()), False)
        self.assertIs(is_heights(((),)), False)
        self.assertIs(is_heights(((0,),)), False)
        self.assertIs(is_heights(samples.plain_heights(samples.unit_table(6))), True)
        self.assertIs(is_heights(samples.plain_heights(samples.unit_table(7))), False)

    def test_they_begin_with_noughts(self):
        heights = samples.plain_heights(samples.CROSS)
        raised = tuple(tuple(number + 1 for number in row) for row in heights)
        down_more = tuple(tuple(number + at for number in row) for at, row in enumerate(heights))
        across_more = tuple(tuple(number + at for at, number in enumerate(row)) for row in heights)
        for grid in (raised, down_more, across_more):
            self.assertIs(is_heights(grid), False, grid)

    def test_one_thing_otherwise(self):
        for table in samples.SOME_TABLES:
            for thing in samples.otherwise(samples.plain_heights(table)):
                self.assertIs(is_heights(thing), repr(thing) in samples.HEIGHTS_FORMS, thing)

    def test_things_of_other_kinds(self):
        for thing in samples.STRANGE + samples.ALL_TABLES[:100]:
            self.assertIs(is_heights(thing), False, thing)


class TableBy(unittest.TestCase):
    def test_the_table_of_heights_is_the_table_again(self):
        for table in samples.ALL_TABLES:
            self.assertEqual(repr(table_by(samples.plain_heights(table))), repr(table))
            self.assertEqual(table_by(heights_of(table)), table)

    def test_what_is_no_heights_is_refused(self):
        unlike = [samples.CROSS, samples.plain_heights(samples.unit_table(7)), ((0,),)]
        for thing in samples.STRANGE + unlike:
            self.assertIs(type(samples.refusal(table_by, thing)), NoHeights, thing)

    def test_one_thing_otherwise_is_refused(self):
        for table in samples.SOME_TABLES:
            for thing in samples.otherwise(samples.plain_heights(table)):
                if repr(thing) not in samples.HEIGHTS_FORMS:
                    self.assertIs(type(samples.refusal(table_by, thing)), NoHeights, thing)


class Interface(unittest.TestCase):
    def test_names_and_arguments(self):
        wanted = {"is_table": ["thing"], "is_heights": ["thing"], "heights_of": ["table"], "table_by": ["heights"]}
        for name, arguments in wanted.items():
            self.assertEqual(list(inspect.signature(getattr(tables, name)).parameters), arguments)

    def test_refusals_are_sign_errors_and_value_errors(self):
        for deed in (heights_of, table_by):
            told = samples.refusal(deed, None)
            self.assertIsInstance(told, SignError)
            self.assertIsInstance(told, ValueError)
            self.assertIsInstance(told.args[0], str)


if __name__ == "__main__":
    unittest.main()
