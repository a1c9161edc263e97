"""Points 60 and 61: tables above and below one another, steps, and the interface's row orders.py."""

import inspect
import unittest
from itertools import product

import samples
from turnsigns import orders
from turnsigns.errors import NoStep, NotAlike, NoTable, SignError
from turnsigns.orders import both_above, both_below, is_below, stepped, steps_from_lowest, steps_of

OF_TWO = (is_below, both_below, both_above)


def near_pairs(side, many):
    """Pairs of tables of a side: drawn, and each with one a step or two away."""
    tables = samples.drawn_tables(side, many)
    told = list(zip(tables, tables[1:])) + [(table, table) for table in tables[:5]]
    for table in tables:
        behind = list(samples.plain_steps(table).values())
        told.extend((table, other) for other in behind[:2])
        told.extend((other, table) for other in behind[-1:])
        told.extend(zip(behind, behind[1:]))
    return told


def pairs():
    """All pairs of sides to 3, and some of sides 4 to 6."""
    told = [pair for side in (1, 2, 3) for pair in product(samples.TABLES[side], repeat=2)]
    return told + near_pairs(4, 42) + near_pairs(5, 30) + near_pairs(6, 6) + ends_of_sides()


def ends_of_sides():
    told = []
    for side in samples.SIDES:
        ends = [samples.unit_table(side), samples.unit_table(side)[::-1]] + samples.few_tables(side)
        told.extend(product(ends, repeat=2))
    return told


PAIRS = pairs()


def highest_below(one, other):
    """By all tables: the one below both that each other one below both lies below."""
    below = [t for t in samples.TABLES[len(one)] if samples.plain_is_below(t, one) and samples.plain_is_below(t, other)]
    told = [t for t in below if all(samples.plain_is_below(less, t) for less in below)]
    return told[0] if len(told) == 1 else None


def lowest_above(one, other):
    above = [t for t in samples.TABLES[len(one)] if samples.plain_is_below(one, t) and samples.plain_is_below(other, t)]
    told = [t for t in above if all(samples.plain_is_below(t, more) for more in above)]
    return told[0] if len(told) == 1 else None


def walked_up(side):
    """Each table of a side with the least number of steps that lead to it from the lowest one."""
    told = {samples.unit_table(side): 0}
    last = [samples.unit_table(side)]
    while last:
        behind = {table: told[start] + 1 for start in last for table in samples.plain_steps(start).values()}
        last = [table for table in behind if table not in told]
        told.update({table: behind[table] for table in last})
    return told


class IsBelow(unittest.TestCase):
    def test_written_ones(self):
        low, high = ((1, 0), (0, 1)), ((0, 1), (1, 0))
        self.assertIs(is_below(low, high), True)
        self.assertIs(is_below(high, low), False)
        self.assertIs(is_below(low, low), True)
        self.assertIs(is_below(((1,),), ((1,),)), True)
        one, other = ((1, 0, 0), (0, 0, 1), (0, 1, 0)), ((0, 1, 0), (1, 0, 0), (0, 0, 1))
        self.assertIs(is_below(one, other), False)
        self.assertIs(is_below(other, one), False)
        self.assertIs(is_below(one, samples.CROSS), True)

    def test_by_the_heights(self):
        for one, other in PAIRS + list(product(samples.TABLES[4], repeat=2)):
            self.assertIs(is_below(one, other), samples.plain_is_below(one, other), (one, other))

    def test_the_lowest_and_the_highest(self):
        for side in samples.SIDES:
            for table in samples.TABLES[side]:
                self.assertIs(is_below(samples.unit_table(side), table), True)
                self.assertIs(is_below(table, samples.unit_table(side)[::-1]), True)


class Both(unittest.TestCase):
    def test_written_ones(self):
        one, other = ((1, 0, 0), (0, 0, 1), (0, 1, 0)), ((0, 1, 0), (1, 0, 0), (0, 0, 1))
        self.assertEqual(both_below(one, other), samples.unit_table(3))
        self.assertEqual(both_above(one, other), samples.CROSS)
        self.assertEqual(both_below(((1,),), ((1,),)), ((1,),))
        self.assertEqual(both_above(((1,),), ((1,),)), ((1,),))

    def test_by_all_tables(self):
        for one, other in PAIRS:
            if len(one) < 6:
                self.assertEqual(repr(both_below(one, other)), repr(highest_below(one, other)))
                self.assertEqual(repr(both_above(one, other)), repr(lowest_above(one, other)))

    def test_of_side_6_by_all_tables(self):
        for one, other in [pair for pair in PAIRS if len(pair[0]) == 6]:
            low, high = both_below(one, other), both_above(one, other)
            for table in samples.TABLES[6]:
                under = samples.plain_is_below(table, one) and samples.plain_is_below(table, other)
                self.assertIs(samples.plain_is_below(table, low), under)
                over = samples.plain_is_below(one, table) and samples.plain_is_below(other, table)
                self.assertIs(samples.plain_is_below(high, table), over)

    def test_all_pairs_of_side_4(self):
        for one, other in product(samples.TABLES[4], repeat=2):
            self.assertEqual(both_below(one, other), highest_below(one, other))
            self.assertEqual(both_above(one, other), lowest_above(one, other))

    def test_where_one_lies_below_the_other(self):
        for one, other in PAIRS:
            if samples.plain_is_below(one, other):
                self.assertEqual(both_below(one, other), one)
                self.assertEqual(both_above(one, other), other)


class Refused(unittest.TestCase):
    def test_sides_that_are_not_alike(self):
        for one, other in product(samples.SOME_TABLES, repeat=2):
            for deed in OF_TWO:
                refused = samples.refusal(deed, one, other)
                self.assertIs(type(refused), type(None) if len(one) == len(other) else NotAlike)

    def test_no_table_in_either_place_ahead_of_not_alike(self):
        for thing in samples.NOT_TABLES:
            for deed in OF_TWO:
                for table in (((1,),), samples.CROSS, thing):
                    self.assertIs(type(samples.refusal(deed, thing, table)), NoTable, thing)
                    self.assertIs(type(samples.refusal(deed, table, thing)), NoTable, thing)

    def test_no_table_for_the_steps(self):
        for thing in samples.NOT_TABLES:
            self.assertIs(type(samples.refusal(steps_of, thing)), NoTable, thing)
            self.assertIs(type(samples.refusal(steps_from_lowest, thing)), NoTable, thing)

    def test_no_table_ahead_of_no_step(self):
        for thing in samples.NOT_TABLES:
            for place in ((1, 1), (0, 0), None, "", [1, 1]):
                self.assertIs(type(samples.refusal(stepped, thing, place)), NoTable, thing)


class Steps(unittest.TestCase):
    def test_written_ones(self):
        self.assertEqual(steps_of(((1,),)), [])
        self.assertEqual(steps_of(((1, 0), (0, 1))), [(1, 1)])
        self.assertEqual(steps_of(((0, 1), (1, 0))), [])
        self.assertEqual(steps_of(samples.unit_table(3)), [(1, 1), (2, 2)])
        self.assertEqual(steps_of(samples.CROSS), [(1, 2), (2, 1)])

    def test_each_table(self):
        for table in samples.ALL_TABLES:
            self.assertEqual(repr(steps_of(table)), repr(sorted(samples.plain_steps(table))))

    def test_the_lowest_and_the_highest(self):
        for side in samples.SIDES:
            self.assertEqual(steps_of(samples.unit_table(side)), [(at, at) for at in range(1, side)])
            self.assertEqual(steps_of(samples.unit_table(side)[::-1]), [])


class Stepped(unittest.TestCase):
    def test_written_ones(self):
        self.assertEqual(stepped(((1, 0), (0, 1)), (1, 1)), ((0, 1), (1, 0)))
        self.assertEqual(stepped(samples.unit_table(3), (1, 1)), ((0, 1, 0), (1, 0, 0), (0, 0, 1)))
        self.assertEqual(stepped(samples.CROSS, (1, 2)), ((0, 0, 1), (1, 0, 0), (0, 1, 0)))

    def test_each_step_of_each_table_to_side_5(self):
        for table in samples.ALL_TABLES[:481] + samples.drawn_tables(6, 300) + samples.few_tables(6):
            for place, behind in samples.plain_steps(table).items():
                self.assertEqual(repr(stepped(table, place)), repr(behind))

    def test_places_at_which_no_step_goes_up(self):
        for table in samples.SOME_TABLES + samples.TABLES[4]:
            steps = samples.plain_steps(table)
            for place in product(range(-1, len(table) + 2), repeat=2):
                if place not in steps:
                    self.assertIs(type(samples.refusal(stepped, table, place)), NoStep, place)

    def test_what_is_no_place_is_refused(self):
        wrong = [[1, 1], (1,), (1, 1, 1), (True, 1), (1, True), (True, True), ("1", 1), (1, None), ((1, 1),), "11"]
        wrong += [(1, (1,)), {1: 1}, (10**30 - 1, 1), (1, 1 - 10**30), 1, 11, (), None]
        for table in (((1, 0), (0, 1)), samples.unit_table(6), ((1,),)):
            for thing in wrong + samples.STRANGE:
                if repr(thing) not in map(repr, samples.plain_steps(table)):
                    self.assertIs(type(samples.refusal(stepped, table, thing)), NoStep, thing)


class StepsFromLowest(unittest.TestCase):
    def test_written_ones(self):
        self.assertEqual(steps_from_lowest(((1,),)), 0)
        self.assertEqual(steps_from_lowest(((0, 1), (1, 0))), 1)
        self.assertEqual(steps_from_lowest(samples.CROSS), 2)

    def test_by_walking_up_from_the_lowest(self):
        for side in samples.SIDES:
            many = walked_up(side)
            self.assertEqual(len(many), len(samples.TABLES[side]))
            for table in samples.TABLES[side]:
                self.assertEqual(steps_from_lowest(table), many[table])
                self.assertIs(type(steps_from_lowest(table)), int)

    def test_the_lowest_and_the_highest(self):
        for side, most in zip(samples.SIDES, (0, 1, 4, 10, 20, 35)):
            self.assertEqual(steps_from_lowest(samples.unit_table(side)), 0)
            self.assertEqual(steps_from_lowest(samples.unit_table(side)[::-1]), most)


class Interface(unittest.TestCase):
    def test_names_and_arguments(self):
        wanted = {
            "is_below": ["one", "other"],
            "both_below": ["one", "other"],
            "both_above": ["one", "other"],
            "steps_of": ["table"],
            "stepped": ["table", "place"],
            "steps_from_lowest": ["table"],
        }
        for name, arguments in wanted.items():
            self.assertEqual(list(inspect.signature(getattr(orders, name)).parameters), arguments)

    def test_refusals_are_sign_errors_and_value_errors(self):
        calls = [(deed, None, ((1,),)) for deed in OF_TWO] + [(deed, ((1,),), samples.CROSS) for deed in OF_TWO]
        calls += [(steps_of, None), (steps_from_lowest, None), (stepped, None, (1, 1)), (stepped, ((1,),), (1, 1))]
        for deed, *things in calls:
            told = samples.refusal(deed, *things)
            self.assertIsInstance(told, SignError)
            self.assertIsInstance(told, ValueError)
            self.assertIsInstance(told.args[0], str)


if __name__ == "__main__":
    unittest.main()
