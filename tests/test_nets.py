"""Points 20 and 21: nets of arrows and kinds of squares, and the interface's row nets.py."""

import inspect
import unittest
from itertools import product

import samples
from turnsigns import nets
from turnsigns.errors import NoNet, NoPlace, NoTable, SignError
from turnsigns.nets import is_net, kind_at, kinds_of, net_of, table_of_net

CROSS_NET = (((0, 0, 1, 1), (0, 1, 0, 1), (0, 0, 1, 1)), ((0, 0, 0), (0, 1, 0), (1, 0, 1), (1, 1, 1)))
ONE_NET = (((0, 1),), ((0,), (1,)))
KINDS_OF_0 = {(0, 0, 0, 0), (1, 1, 1, 1), (0, 0, 1, 1), (1, 1, 0, 0)}
NO_PLACES = [None, True, False, "", "0", [0], (0,), {0: 0}, -1, 10**30 - 1, 1 - 10**30]


class NetOf(unittest.TestCase):
    def test_written_ones(self):
        self.assertEqual(net_of(((1,),)), ONE_NET)
        self.assertEqual(net_of(samples.CROSS), CROSS_NET)

    def test_it_is_the_sums_as_tuples(self):
        for table in samples.ALL_TABLES:
            self.assertEqual(repr(net_of(table)), repr(samples.plain_net(table)))

    def test_what_is_no_table_is_refused(self):
        for thing in samples.NOT_TABLES:
            self.assertIs(type(samples.refusal(net_of, thing)), NoTable, thing)


class IsNet(unittest.TestCase):
    def test_nets_of_every_table_are(self):
        for table in samples.ALL_TABLES:
            self.assertIs(is_net(samples.plain_net(table)), True, table)

    def test_of_all_small_halves_just_nets_are(self):
        for a, b, c, d in product(range(-2, 4), repeat=4):
            self.assertIs(is_net((((a, b),), ((c,), (d,)))), (a, b, c, d) == (0, 1, 0, 1))
        for row in product((0, 1), repeat=12):
            net = ((row[0:3], row[3:6]), (row[6:8], row[8:10], row[10:12]))
            self.assertIs(is_net(net), repr(net) in samples.NET_FORMS, net)

    def test_none_of_side_0_or_7(self):
        self.assertIs(is_net(()), False)
        self.assertIs(is_net(((), ())), False)
        self.assertIs(is_net(((), ((),))), False)
        self.assertIs(is_net(samples.plain_net(samples.unit_table(6))), True)
        self.assertIs(is_net(samples.plain_net(samples.unit_table(7))), False)

    def test_halves_exchanged(self):
        for table in samples.SOME_TABLES:
            across, down = samples.plain_net(table)
            self.assertIs(is_net((down, across)), False, table)

    def test_halves_of_two_tables(self):
        for one, other in product(samples.SOME_TABLES + samples.TABLES[3], repeat=2):
            mixed = (samples.plain_net(one)[0], samples.plain_net(other)[1])
            self.assertIs(is_net(mixed), one == other, mixed)

    def test_one_half_or_three(self):
        across, down = CROSS_NET
        for thing in ((across,), (down,), (across, down, down), (across, across), (down, down), [across, down]):
            self.assertIs(is_net(thing), False, thing)

    def test_one_thing_otherwise(self):
        for table in samples.SOME_TABLES:
            for thing in samples.otherwise(samples.plain_net(table)):
                self.assertIs(is_net(thing), repr(thing) in samples.NET_FORMS, thing)

    def test_things_of_other_kinds(self):
        for thing in samples.STRANGE + samples.ALL_TABLES[:100]:
            self.assertIs(is_net(thing), False, thing)


class TableOfNet(unittest.TestCase):
    def test_the_table_of_a_net_is_the_table_again(self):
        for table in samples.ALL_TABLES:
            self.assertEqual(repr(table_of_net(samples.plain_net(table))), repr(table))
            self.assertEqual(table_of_net(net_of(table)), table)

    def test_what_is_no_net_is_refused(self):
        halves_of_two = (samples.plain_net(((1, 0), (0, 1)))[0], samples.plain_net(((0, 1), (1, 0)))[1])
        unlike = [samples.CROSS, CROSS_NET[::-1], halves_of_two, (CROSS_NET[0], ONE_NET[1])]
        for thing in samples.STRANGE + unlike + [samples.plain_net(samples.unit_table(7))]:
            self.assertIs(type(samples.refusal(table_of_net, thing)), NoNet, thing)

    def test_one_thing_otherwise_is_refused(self):
        for table in samples.SOME_TABLES:
            for thing in samples.otherwise(samples.plain_net(table)):
                if repr(thing) not in samples.NET_FORMS:
                    self.assertIs(type(samples.refusal(table_of_net, thing)), NoNet, thing)


class KindAt(unittest.TestCase):
    def test_the_six_kinds(self):
        wanted = (
            ((0, 0, 0, 0), (0, 1, 0, 1), (1, 1, 0, 0)),
            ((0, 1, 0, 1), (1, 0, 1, 0), (0, 1, 0, 1)),
            ((0, 0, 1, 1), (0, 1, 0, 1), (1, 1, 1, 1)),
        )
        for row, column in product(range(3), repeat=2):
            self.assertEqual(kind_at(samples.CROSS, row, column), wanted[row][column])

    def test_each_square(self):
        for table in samples.ALL_TABLES[:300] + samples.SOME_TABLES:
            for row, column in product(range(len(table)), repeat=2):
                kind = kind_at(table, row, column)
                self.assertEqual(repr(kind), repr(samples.plain_kind(table, row, column)))

    def test_the_kind_tells_the_number(self):
        for table in samples.SOME_TABLES:
            for row, column in product(range(len(table)), repeat=2):
                kind = kind_at(table, row, column)
                self.assertEqual(kind == (0, 1, 0, 1), table[row][column] == 1)
                self.assertEqual(kind == (1, 0, 1, 0), table[row][column] == -1)
                self.assertEqual(kind in KINDS_OF_0, table[row][column] == 0)

    def test_the_first_place_the_last_one_and_one_beyond(self):
        for side in samples.SIDES:
            table = samples.unit_table(side)
            self.assertEqual(kind_at(table, 0, 0), (0, 1, 0, 1))
            self.assertEqual(kind_at(table, side - 1, side - 1), (0, 1, 0, 1))
            for row, column in ((side, 0), (0, side), (side, side), (-1, 0), (0, -1), (-side, 0)):
                self.assertIs(type(samples.refusal(kind_at, table, row, column)), NoPlace)

    def test_what_is_no_place_is_refused(self):
        for thing in NO_PLACES + [thing for thing in samples.STRANGE if isinstance(thing, (list, tuple, dict))]:
            self.assertIs(type(samples.refusal(kind_at, samples.CROSS, thing, 0)), NoPlace, thing)
            self.assertIs(type(samples.refusal(kind_at, samples.CROSS, 0, thing)), NoPlace, thing)

    def test_the_row_is_looked_at_ahead_of_the_column(self):
        for wrong in NO_PLACES:
            self.assertIn("row", str(samples.refusal(kind_at, samples.CROSS, wrong, wrong)))
            self.assertIn("column", str(samples.refusal(kind_at, samples.CROSS, 2, wrong)))

    def test_the_table_is_looked_at_ahead_of_the_place(self):
        for thing in samples.NOT_TABLES:
            for row, column in ((0, 0), (9, 0), (0, "x"), (None, None)):
                self.assertIs(type(samples.refusal(kind_at, thing, row, column)), NoTable, thing)


class KindsOf(unittest.TestCase):
    def test_written_ones(self):
        self.assertEqual(kinds_of(((1,),)), {(0, 1, 0, 1): 1})
        self.assertEqual(kinds_of(((1, 0), (0, 1))), {(0, 1, 0, 1): 2, (1, 1, 0, 0): 1, (0, 0, 1, 1): 1})
        wanted = {kind: 1 for kind in KINDS_OF_0}
        wanted.update({(0, 1, 0, 1): 4, (1, 0, 1, 0): 1})
        self.assertEqual(kinds_of(samples.CROSS), wanted)

    def test_each_kind_that_comes_and_no_other_one(self):
        for table in samples.ALL_TABLES:
            wanted = {}
            for row, column in product(range(len(table)), repeat=2):
                kind = samples.plain_kind(table, row, column)
                wanted[kind] = wanted.get(kind, 0) + 1
            told = kinds_of(table)
            self.assertIs(type(told), dict)
            self.assertEqual(sorted(map(repr, told.items())), sorted(map(repr, wanted.items())))

    def test_what_is_no_table_is_refused(self):
        for thing in samples.NOT_TABLES:
            self.assertIs(type(samples.refusal(kinds_of, thing)), NoTable, thing)


class Interface(unittest.TestCase):
    def test_names_and_arguments(self):
        wanted = {
            "net_of": ["table"],
            "is_net": ["thing"],
            "table_of_net": ["net"],
            "kind_at": ["table", "row", "column"],
            "kinds_of": ["table"],
        }
        for name, arguments in wanted.items():
            self.assertEqual(list(inspect.signature(getattr(nets, name)).parameters), arguments)

    def test_refusals_are_sign_errors_and_value_errors(self):
        calls = [(net_of, None), (table_of_net, None), (kinds_of, None), (kind_at, None, 0, 0), (kind_at, ((1,),), 0, 1)]
        for deed, *things in calls:
            told = samples.refusal(deed, *things)
            self.assertIsInstance(told, SignError)
            self.assertIsInstance(told, ValueError)
            self.assertIsInstance(told.args[0], str)


if __name__ == "__main__":
    unittest.main()
