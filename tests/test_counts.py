"""Points 40 and 41: how many tables there are, all of them, their numbers; the interface's row counts.py."""

import inspect
import unittest
from fractions import Fraction
from math import factorial

import samples
from turnsigns import counts
from turnsigns.counts import all_tables, many_first, many_tables, number_of, table_at
from turnsigns.errors import NoNumber, NoTable, SignError

MANY = (1, 2, 7, 42, 429, 7436, 218348, 10850216, 911835460, 129534272700)


def by_the_product(side):
    told = Fraction(1)
    for k in range(side):
        told *= Fraction(factorial(3 * k + 1), factorial(side + k))
    return told


class ManyTables(unittest.TestCase):
    def test_written_ones(self):
        for side, many in enumerate(MANY, 1):
            self.assertEqual(many_tables(side), many)

    def test_by_telling_all(self):
        for side in samples.SIDES:
            self.assertEqual(many_tables(side), len(samples.TABLES[side]))

    def test_it_is_the_product_to_side_40(self):
        for side in range(1, 41):
            self.assertEqual(many_tables(side), by_the_product(side))
            self.assertIs(type(many_tables(side)), int)

    def test_what_is_no_side_is_refused(self):
        for thing in [0, 41, -1, True, False, "3"] + samples.not_numbers(1, 40):
            self.assertIs(type(samples.refusal(many_tables, thing)), NoNumber, thing)


class ManyFirst(unittest.TestCase):
    def test_written_ones(self):
        wanted = {1: [1], 2: [1, 1], 3: [2, 3, 2], 4: [7, 14, 14, 7], 5: [42, 105, 135, 105, 42]}
        for side, many in wanted.items():
            self.assertEqual([many_first(side, column) for column in range(1, side + 1)], many)

    def test_by_telling_all(self):
        for side in samples.SIDES:
            for column in range(1, side + 1):
                told = [table for table in samples.TABLES[side] if table[0].index(1) == column - 1]
                self.assertEqual(many_first(side, column), len(told))

    def test_they_come_to_all_of_the_side(self):
        for side in range(1, 41):
            told = [many_first(side, column) for column in range(1, side + 1)]
            self.assertEqual(sum(told), by_the_product(side))
            self.assertEqual(told, told[::-1])
            self.assertEqual({type(many) for many in told}, {int})
            if side > 1:
                self.assertEqual(told[0], by_the_product(side - 1))

    def test_what_is_no_side_is_refused(self):
        for thing in [0, 41, -1, True, False, "3"] + samples.not_numbers(1, 40):
            self.assertIs(type(samples.refusal(many_first, thing, 1)), NoNumber, thing)

    def test_what_is_no_column_is_refused(self):
        for side in (1, 2, 4, 6, 40):
            for thing in [0, side + 1, -1, True, False] + samples.not_numbers(1, side):
                self.assertIs(type(samples.refusal(many_first, side, thing)), NoNumber, thing)

    def test_the_side_is_looked_at_ahead_of_the_column(self):
        for side in (0, 41, None, True, "2"):
            for column in (0, 42, None, True, "1"):
                self.assertIn("the side", str(samples.refusal(many_first, side, column)))
        self.assertIn("the column", str(samples.refusal(many_first, 40, 41)))


class AllTables(unittest.TestCase):
    def test_written_ones(self):
        self.assertEqual(all_tables(1), [((1,),)])
        self.assertEqual(all_tables(2), [((0, 1), (1, 0)), ((1, 0), (0, 1))])

    def test_they_are_all_and_rise(self):
        for side in (1, 2, 3, 4):
            self.assertEqual(repr(all_tables(side)), repr(sorted(samples.TABLES[side])))

    def test_what_is_no_side_to_4_is_refused(self):
        for thing in [0, 5, 6, -1, True, False] + samples.not_numbers(1, 4):
            self.assertIs(type(samples.refusal(all_tables, thing)), NoNumber, thing)


class NumberOf(unittest.TestCase):
    def test_it_is_the_place_in_the_list_of_all(self):
        for side in (1, 2, 3, 4, 5):
            for number, table in enumerate(sorted(samples.TABLES[side])):
                self.assertEqual(number_of(table), number)
                self.assertIs(type(number_of(table)), int)

    def test_of_side_6(self):
        numbers = {table: number for number, table in enumerate(sorted(samples.TABLES[6]))}
        for table in samples.drawn_tables(6, 500) + samples.few_tables(6):
            self.assertEqual(number_of(table), numbers[table])

    def test_the_first_and_the_last(self):
        for side in samples.SIDES:
            self.assertEqual(number_of(samples.unit_table(side)[::-1]), 0)
            self.assertEqual(number_of(samples.unit_table(side)), MANY[side - 1] - 1)

    def test_what_is_no_table_is_refused(self):
        for thing in samples.NOT_TABLES:
            self.assertIs(type(samples.refusal(number_of, thing)), NoTable, thing)


class TableAt(unittest.TestCase):
    def test_it_is_the_one_at_that_place_in_the_list_of_all(self):
        for side in (1, 2, 3, 4, 5):
            for number, table in enumerate(sorted(samples.TABLES[side])):
                self.assertEqual(repr(table_at(side, number)), repr(table))

    def test_of_side_6(self):
        tables = sorted(samples.TABLES[6])
        for number in list(range(0, 7436, 17)) + [1, 7434, 7435]:
            self.assertEqual(repr(table_at(6, number)), repr(tables[number]))

    def test_the_first_and_the_last(self):
        for side in samples.SIDES:
            self.assertEqual(table_at(side, 0), samples.unit_table(side)[::-1])
            self.assertEqual(table_at(side, MANY[side - 1] - 1), samples.unit_table(side))

    def test_the_number_again(self):
        for table in samples.SOME_TABLES:
            self.assertEqual(table_at(len(table), number_of(table)), table)

    def test_what_is_no_side_to_6_is_refused(self):
        for thing in [0, 7, -1, 40, True, False] + samples.not_numbers(1, 6):
            self.assertIs(type(samples.refusal(table_at, thing, 0)), NoNumber, thing)

    def test_what_is_no_number_of_a_table_is_refused(self):
        for side in samples.SIDES:
            for thing in [-1, MANY[side - 1], True, False, None] + samples.not_numbers(0, MANY[side - 1] - 1):
                self.assertIs(type(samples.refusal(table_at, side, thing)), NoNumber, thing)

    def test_the_side_is_looked_at_ahead_of_the_number(self):
        for side in (0, 7, None, True, "2", []):
            for number in (-1, 10**29, None, True, "1", []):
                self.assertIn("the side", str(samples.refusal(table_at, side, number)))
        self.assertIn("the number", str(samples.refusal(table_at, 6, 7436)))


class Interface(unittest.TestCase):
    def test_names_and_arguments(self):
        wanted = {
            "many_tables": ["side"],
            "many_first": ["side", "column"],
            "all_tables": ["side"],
            "number_of": ["table"],
            "table_at": ["side", "number"],
        }
        for name, arguments in wanted.items():
            self.assertEqual(list(inspect.signature(getattr(counts, name)).parameters), arguments)

    def test_refusals_are_sign_errors_and_value_errors(self):
        calls = [(many_tables, 41), (many_first, 41, 1), (many_first, 2, 3), (all_tables, 5), (number_of, None)]
        for deed, *things in calls + [(table_at, 7, 0), (table_at, 2, 2)]:
            told = samples.refusal(deed, *things)
            self.assertIsInstance(told, SignError)
            self.assertIsInstance(told, ValueError)
            self.assertIsInstance(told.args[0], str)


if __name__ == "__main__":
    unittest.main()
