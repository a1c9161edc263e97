"""Points 50 and 51: tables turned about, and the interface's row turned.py."""

import inspect
import unittest

import samples
from turnsigns import turned as turned_file
from turnsigns.errors import NoNumber, NoTable, NoTurn, SignError
from turnsigns.tables import is_table
from turnsigns.turned import least_turned, left_so, own_turns, turned

TURNS = ["stay", "left", "half", "right", "upright", "flat", "slant", "other"]
# No turn but "stay" leaves it, and no two turn it to the same.
LOPSIDED = ((0, 0, 1, 0), (0, 1, -1, 1), (1, 0, 0, 0), (0, 0, 1, 0))
NO_TURNS = ["", "Stay", "LEFT", "left ", " left", "lef", "leftleft", "half right", "turn", "0", "s", "\n"]


def not_turns():
    return NO_TURNS + [("left",), ["left"], {"left": 1}, b"left"] + samples.STRANGE


class Turned(unittest.TestCase):
    def test_written_ones(self):
        wanted = {
            "stay": LOPSIDED,
            "left": ((0, 1, 0, 0), (1, -1, 0, 1), (0, 1, 0, 0), (0, 0, 1, 0)),
            "half": ((0, 1, 0, 0), (0, 0, 0, 1), (1, -1, 1, 0), (0, 1, 0, 0)),
            "right": ((0, 1, 0, 0), (0, 0, 1, 0), (1, 0, -1, 1), (0, 0, 1, 0)),
            "upright": ((0, 1, 0, 0), (1, -1, 1, 0), (0, 0, 0, 1), (0, 1, 0, 0)),
            "flat": ((0, 0, 1, 0), (1, 0, 0, 0), (0, 1, -1, 1), (0, 0, 1, 0)),
            "slant": ((0, 0, 1, 0), (0, 1, 0, 0), (1, -1, 0, 1), (0, 1, 0, 0)),
            "other": ((0, 0, 1, 0), (1, 0, -1, 1), (0, 0, 1, 0), (0, 1, 0, 0)),
        }
        for turn in TURNS:
            self.assertEqual(turned(LOPSIDED, turn), wanted[turn], turn)

    def test_by_left_the_last_column_becomes_the_first_row(self):
        table = ((0, 1, 0), (0, 0, 1), (1, 0, 0))
        self.assertEqual(turned(table, "left"), ((0, 1, 0), (1, 0, 0), (0, 0, 1)))
        self.assertEqual(turned(table, "right"), ((1, 0, 0), (0, 0, 1), (0, 1, 0)))
        for table in samples.SOME_TABLES:
            self.assertEqual(turned(table, "left")[0], tuple(row[-1] for row in table))

    def test_square_by_square(self):
        for table in samples.ALL_TABLES:
            for turn in TURNS:
                self.assertEqual(repr(turned(table, turn)), repr(samples.plain_turned(table, turn)))

    def test_each_by_the_others(self):
        for table in samples.SOME_TABLES + samples.drawn_tables(6, 50):
            left = turned(table, "left")
            self.assertEqual(turned(left, "left"), turned(table, "half"))
            self.assertEqual(turned(turned(left, "left"), "left"), turned(table, "right"))
            self.assertEqual(turned(turned(table, "slant"), "half"), turned(table, "other"))
            self.assertEqual(turned(left, "right"), table)
            for turn in ("stay", "half", "upright", "flat", "slant", "other"):
                self.assertEqual(turned(turned(table, turn), turn), table)

    def test_it_is_a_table(self):
        for table in samples.SOME_TABLES:
            for turn in TURNS:
                self.assertIs(is_table(turned(table, turn)), True)

    def test_what_is_no_table_is_refused_ahead_of_what_is_no_turn(self):
        for thing in samples.NOT_TABLES:
            for turn in ("stay", "left", "", "Stay", None, [], 1):
                self.assertIs(type(samples.refusal(turned, thing, turn)), NoTable, thing)

    def test_what_is_no_turn_is_refused(self):
        for table in (((1,),), samples.CROSS, samples.unit_table(6)):
            for thing in not_turns():
                self.assertIs(type(samples.refusal(turned, table, thing)), NoTurn, thing)


class OwnTurns(unittest.TestCase):
    def test_written_ones(self):
        self.assertEqual(own_turns(((1,),)), TURNS)
        self.assertEqual(own_turns(samples.CROSS), TURNS)
        self.assertEqual(own_turns(((1, 0), (0, 1))), ["stay", "half", "slant", "other"])
        self.assertEqual(own_turns(LOPSIDED), ["stay"])
        self.assertEqual(own_turns(((0, 1, 0), (0, 0, 1), (1, 0, 0))), ["stay", "other"])

    def test_each_table(self):
        for table in samples.ALL_TABLES:
            wanted = [turn for turn in TURNS if samples.plain_turned(table, turn) == table]
            self.assertEqual(own_turns(table), wanted)
            self.assertIs(type(own_turns(table)), list)

    def test_what_is_no_table_is_refused(self):
        for thing in samples.NOT_TABLES:
            self.assertIs(type(samples.refusal(own_turns, thing)), NoTable, thing)


class LeastTurned(unittest.TestCase):
    def test_written_ones(self):
        self.assertEqual(least_turned(((1,),)), ((1,),))
        self.assertEqual(least_turned(((1, 0), (0, 1))), ((0, 1), (1, 0)))
        self.assertEqual(least_turned(((0, 1, 0, 0), (1, -1, 0, 1), (0, 1, 0, 0), (0, 0, 1, 0))), LOPSIDED)

    def test_each_table(self):
        for table in samples.ALL_TABLES:
            wanted = sorted(samples.plain_turned(table, turn) for turn in TURNS)[0]
            self.assertEqual(repr(least_turned(table)), repr(wanted))

    def test_all_that_a_table_is_turned_to_have_one_least(self):
        for table in samples.SOME_TABLES:
            self.assertEqual(len({least_turned(turned(table, turn)) for turn in TURNS}), 1)

    def test_what_is_no_table_is_refused(self):
        for thing in samples.NOT_TABLES:
            self.assertIs(type(samples.refusal(least_turned, thing)), NoTable, thing)


class LeftSo(unittest.TestCase):
    def test_written_ones(self):
        self.assertEqual(left_so(1, "left"), [((1,),)])
        self.assertEqual(left_so(2, "left"), [])
        self.assertEqual(left_so(2, "half"), [((0, 1), (1, 0)), ((1, 0), (0, 1))])
        self.assertEqual(left_so(3, "upright"), [samples.CROSS])
        self.assertEqual(left_so(4, "flat"), [])

    def test_by_all_tables(self):
        for side in (1, 2, 3, 4):
            for turn in TURNS:
                tables = sorted(samples.TABLES[side])
                wanted = [table for table in tables if samples.plain_turned(table, turn) == table]
                self.assertEqual(repr(left_so(side, turn)), repr(wanted))

    def test_what_is_no_side_is_refused_ahead_of_what_is_no_turn(self):
        for thing in [0, 5, 6, -1, True, False] + samples.not_numbers(1, 4):
            for turn in ("stay", "left", "", "Stay", None, [], 1):
                self.assertIs(type(samples.refusal(left_so, thing, turn)), NoNumber, thing)

    def test_what_is_no_turn_is_refused(self):
        for side in (1, 4):
            for thing in not_turns():
                self.assertIs(type(samples.refusal(left_so, side, thing)), NoTurn, thing)


class Interface(unittest.TestCase):
    def test_names_and_arguments(self):
        wanted = {
            "turned": ["table", "turn"],
            "own_turns": ["table"],
            "least_turned": ["table"],
            "left_so": ["side", "turn"],
        }
        for name, arguments in wanted.items():
            self.assertEqual(list(inspect.signature(getattr(turned_file, name)).parameters), arguments)

    def test_refusals_are_sign_errors_and_value_errors(self):
        calls = [(turned, None, "left"), (turned, ((1,),), "up"), (own_turns, None), (least_turned, None)]
        for deed, *things in calls + [(left_so, 5, "left"), (left_so, 4, "up")]:
            told = samples.refusal(deed, *things)
            self.assertIsInstance(told, SignError)
            self.assertIsInstance(told, ValueError)
            self.assertIsInstance(told.args[0], str)


if __name__ == "__main__":
    unittest.main()
