"""Points 70 and 71: -1, turned pairs and weighed sums, and the interface's row weights.py."""

import inspect
import unittest

import samples
from turnsigns import weights
from turnsigns.errors import NoNumber, NoTable, SignError
from turnsigns.weights import by_minus, minus_many, turned_pairs, weighed

TO_FIVE = (1, 2, 3, 4, 5)
BY_MINUS = {1: [1], 2: [2], 3: [6, 1], 4: [24, 16, 2], 5: [120, 200, 94, 14, 1]}


def plain_by_minus(side):
    many = [samples.plain_minus(table) for table in samples.TABLES[side]]
    return [many.count(k) for k in range(max(many) + 1)]


def plain_weighed(side, x):
    """Table by table; x multiplied by itself as often as the table has -1."""
    told = 0
    for table in samples.TABLES[side]:
        product = 1
        for _ in range(samples.plain_minus(table)):
            product = product * x
        told += product
    return told


class MinusMany(unittest.TestCase):
    def test_written_ones(self):
        self.assertEqual(minus_many(((1,),)), 0)
        self.assertEqual(minus_many(((0, 1), (1, 0))), 0)
        self.assertEqual(minus_many(samples.CROSS), 1)
        self.assertEqual(minus_many(samples.unit_table(6)), 0)
        most = ((0, 0, 1, 0, 0), (0, 1, -1, 1, 0), (1, -1, 1, -1, 1), (0, 1, -1, 1, 0), (0, 0, 1, 0, 0))
        self.assertEqual(minus_many(most), 4)

    def test_each_table(self):
        for table in samples.ALL_TABLES:
            self.assertEqual(minus_many(table), samples.plain_minus(table))
            self.assertIs(type(minus_many(table)), int)

    def test_what_is_no_table_is_refused(self):
        for thing in samples.NOT_TABLES:
            self.assertIs(type(samples.refusal(minus_many, thing)), NoTable, thing)


class TurnedPairs(unittest.TestCase):
    def test_written_ones(self):
        self.assertEqual(turned_pairs(((1,),)), 0)
        self.assertEqual(turned_pairs(((1, 0), (0, 1))), 0)
        self.assertEqual(turned_pairs(((0, 1), (1, 0))), 1)
        self.assertEqual(turned_pairs(samples.CROSS), 2)
        self.assertEqual(turned_pairs(((0, 0, 1), (1, 0, 0), (0, 1, 0))), 2)
        self.assertEqual(turned_pairs(((0, 0, 1), (0, 1, 0), (1, 0, 0))), 3)

    def test_the_lowest_and_the_highest(self):
        for side in samples.SIDES:
            self.assertEqual(turned_pairs(samples.unit_table(side)), 0)
            self.assertEqual(turned_pairs(samples.unit_table(side)[::-1]), side * (side - 1) // 2)

    def test_each_table(self):
        for table in samples.ALL_TABLES:
            self.assertEqual(turned_pairs(table), samples.plain_pairs(table))
            self.assertIs(type(turned_pairs(table)), int)

    def test_what_is_no_table_is_refused(self):
        for thing in samples.NOT_TABLES:
            self.assertIs(type(samples.refusal(turned_pairs, thing)), NoTable, thing)


class ByMinus(unittest.TestCase):
    def test_written_ones(self):
        for side, wanted in BY_MINUS.items():
            self.assertEqual(repr(by_minus(side)), repr(wanted))

    def test_by_telling_all(self):
        for side in TO_FIVE:
            self.assertEqual(repr(by_minus(side)), repr(plain_by_minus(side)))

    def test_what_is_no_side_to_5_is_refused(self):
        for thing in [0, 6, 7, -1, True, False, "3", (3,), [3]] + samples.not_numbers(1, 5):
            self.assertIs(type(samples.refusal(by_minus, thing)), NoNumber, thing)


class Weighed(unittest.TestCase):
    def test_for_two(self):
        self.assertEqual([weighed(side, 2) for side in TO_FIVE], [1, 2, 8, 64, 1024])

    def test_for_one_and_for_nought(self):
        self.assertEqual([weighed(side, 1) for side in TO_FIVE], [1, 2, 7, 42, 429])
        self.assertEqual([weighed(side, 0) for side in TO_FIVE], [1, 2, 6, 24, 120])

    def test_written_ones(self):
        self.assertEqual([weighed(side, -9) for side in TO_FIVE], [1, 2, -3, 42, 2289])
        self.assertEqual([weighed(side, 9) for side in TO_FIVE], [1, 2, 15, 330, 26301])
        self.assertEqual([weighed(side, 3) for side in TO_FIVE], [1, 2, 9, 90, 2025])

    def test_by_telling_all(self):
        for side in TO_FIVE:
            for x in range(-9, 10):
                self.assertEqual(weighed(side, x), plain_weighed(side, x), (side, x))
                self.assertIs(type(weighed(side, x)), int)

    def test_what_is_no_side_to_5_is_refused(self):
        for thing in [0, 6, 7, -1, True, False] + samples.not_numbers(1, 5):
            self.assertIs(type(samples.refusal(weighed, thing, 2)), NoNumber, thing)

    def test_what_is_no_x_is_refused(self):
        for side in (1, 3, 5):
            for thing in [-10, 10, True, False, None, "2", (2,), [2]] + samples.not_numbers(-9, 9):
                self.assertIs(type(samples.refusal(weighed, side, thing)), NoNumber, thing)

    def test_the_side_is_looked_at_ahead_of_x(self):
        for side in (0, 6, None, True, "2", []):
            for x in (-10, 10, None, True, "1", []):
                self.assertIn("the side", str(samples.refusal(weighed, side, x)))
        self.assertIn("the number x", str(samples.refusal(weighed, 5, 10)))


class Interface(unittest.TestCase):
    def test_names_and_arguments(self):
        wanted = {"minus_many": ["table"], "turned_pairs": ["table"], "by_minus": ["side"], "weighed": ["side", "x"]}
        for name, arguments in wanted.items():
            self.assertEqual(list(inspect.signature(getattr(weights, name)).parameters), arguments)

    def test_refusals_are_sign_errors_and_value_errors(self):
        calls = [(minus_many, None), (turned_pairs, None), (by_minus, 6), (weighed, 6, 2), (weighed, 5, 10)]
        for deed, *things in calls:
            told = samples.refusal(deed, *things)
            self.assertIsInstance(told, SignError)
            self.assertIsInstance(told, ValueError)
            self.assertIsInstance(told.args[0], str)


if __name__ == "__main__":
    unittest.main()
