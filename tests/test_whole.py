"""What the document promises over the whole program: the parts meet."""

import unittest
from collections import Counter
from fractions import Fraction

import samples
from turnsigns.counts import all_tables, many_first, many_tables, number_of, table_at
from turnsigns.desk import Desk
from turnsigns.nets import kinds_of, net_of, table_of_net
from turnsigns.notes import table_read, table_text
from turnsigns.orders import both_above, both_below, is_below, stepped, steps_from_lowest, steps_of
from turnsigns.shares import many_so, next_rows, share_so
from turnsigns.tables import heights_of, table_by
from turnsigns.triangles import all_triangles, many_triangles, table_of_triangle, triangle_of
from turnsigns.turned import left_so, own_turns, turned
from turnsigns.weights import by_minus, minus_many, turned_pairs, weighed

TO_FOUR = (1, 2, 3, 4)
TO_FIVE = (1, 2, 3, 4, 5)


class Counted(unittest.TestCase):
    def test_tables_by_their_minus_come_to_all(self):
        for side in TO_FIVE:
            self.assertEqual(sum(by_minus(side)), many_tables(side))
            self.assertEqual(weighed(side, 1), many_tables(side))

    def test_by_minus_counts_the_tables_that_are_told_one_by_one(self):
        for side in TO_FIVE:
            tables = [table_at(side, number) for number in range(many_tables(side))]
            counted = Counter(minus_many(table) for table in tables)
            self.assertEqual(by_minus(side), [counted[k] for k in range(max(counted) + 1)])

    def test_tables_that_begin_with_a_row_have_its_one_there(self):
        for side in samples.SIDES:
            self.assertEqual(many_so(side, ()), many_tables(side))
            for column in range(1, side + 1):
                row = tuple(int(at == column) for at in range(1, side + 1))
                self.assertEqual(many_so(side, (row,)), many_first(side, column))
                wanted = Fraction(many_first(side, column), many_tables(side))
                self.assertEqual(Fraction(*share_so(side, (row,))), wanted)

    def test_all_tables_are_those_that_the_next_rows_lead_to(self):
        for side in TO_FOUR:
            begun = [()]
            for _ in range(side):
                begun = [rows + (row,) for rows in begun for row, share in next_rows(side, rows)]
            self.assertEqual(begun, all_tables(side))

    def test_triangles_are_as_many_as_tables(self):
        for side in samples.SIDES:
            self.assertEqual(many_triangles(tuple(range(1, side + 1))), many_tables(side))
        for side in TO_FOUR:
            triangles = all_triangles(tuple(range(1, side + 1)))
            self.assertEqual(sorted(map(table_of_triangle, triangles)), all_tables(side))


class OneTable(unittest.TestCase):
    def test_each_way_to_tell_it_leads_back(self):
        for table in samples.SOME_TABLES + samples.drawn_tables(5, 60) + samples.drawn_tables(6, 60):
            self.assertEqual(table_read(table_text(table)), table)
            self.assertEqual(table_by(heights_of(table)), table)
            self.assertEqual(table_of_net(net_of(table)), table)
            self.assertEqual(table_of_triangle(triangle_of(table)), table)
            self.assertEqual(table_at(len(table), number_of(table)), table)

    def test_the_minus_are_the_squares_of_their_kind(self):
        for table in samples.ALL_TABLES[:481] + samples.drawn_tables(6, 100):
            self.assertEqual(minus_many(table), kinds_of(table).get((1, 0, 1, 0), 0))
            self.assertEqual(minus_many(table), table_text(table).count("-"))

    def test_turns_keep_the_minus_and_some_the_pairs(self):
        for table in samples.ALL_TABLES[:481] + samples.drawn_tables(6, 100):
            side = len(table)
            for turn in samples.TURNS:
                self.assertEqual(minus_many(turned(table, turn)), minus_many(table))
            for turn in ("stay", "half", "slant", "other"):
                self.assertEqual(turned_pairs(turned(table, turn)), turned_pairs(table))
            # All pairs are turned either in a table or in the one told backwards; each -1 counts in both.
            both = turned_pairs(table) + turned_pairs(turned(table, "upright"))
            self.assertEqual(both, side * (side - 1) // 2 + minus_many(table))

    def test_tables_left_so_have_that_turn(self):
        for side in TO_FOUR:
            for turn in samples.TURNS:
                self.assertEqual(left_so(side, turn), [t for t in all_tables(side) if turn in own_turns(t)])

    def test_steps_go_up_one_by_one(self):
        for table in samples.SOME_TABLES + samples.drawn_tables(5, 60):
            for place in steps_of(table):
                behind = stepped(table, place)
                self.assertIs(is_below(table, behind), True)
                self.assertEqual(steps_from_lowest(behind), steps_from_lowest(table) + 1)
                self.assertEqual((both_below(table, behind), both_above(table, behind)), (table, behind))


class AtADesk(unittest.TestCase):
    def test_from_the_lowest_to_the_highest_by_steps(self):
        for side in samples.SIDES:
            desk = Desk()
            table = samples.unit_table(side)
            desk.say(f"table a {table_text(table)}")
            many = 0
            while steps_of(table):
                row, column = steps_of(table)[many % len(steps_of(table))]
                table = stepped(table, (row, column))
                many += 1
                self.assertEqual(desk.say(f"up a {row} {column} a"), "ok")
                self.assertEqual(desk.say("steps a"), str(many))
                self.assertEqual(desk.say("show a"), table_text(table))
                self.assertEqual(desk.say("number a"), str(number_of(table)))
            self.assertEqual(desk.say("number a"), "0")
            self.assertEqual(desk.say("pairs a"), str(side * (side - 1) // 2))

    def test_all_tables_of_a_side_kept_at_once(self):
        for side in TO_FOUR:
            desk = Desk()
            names = ["t" + "abcdefgh"[number // 8] + "abcdefgh"[number % 8] for number in range(many_tables(side))]
            for name, table in zip(names, all_tables(side)):
                desk.say(f"table {name} {table_text(table)}")
            self.assertEqual(desk.say("kept").split(" "), names)
            self.assertEqual([int(desk.say(f"number {name}")) for name in names], list(range(many_tables(side))))
            minus = Counter(int(desk.say(f"minus {name}")) for name in names)
            self.assertEqual([minus[k] for k in sorted(minus)], by_minus(side))


if __name__ == "__main__":
    unittest.main()
