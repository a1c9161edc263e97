"""Point 1: what holds for everything that is asked."""

import copy
import unittest

import samples
from turnsigns.counts import all_tables, many_first, many_tables, number_of, table_at
from turnsigns.desk import Desk
from turnsigns.nets import is_net, kind_at, kinds_of, net_of, table_of_net
from turnsigns.notes import table_read, table_text
from turnsigns.orders import both_above, both_below, is_below, stepped, steps_from_lowest, steps_of
from turnsigns.shares import many_so, next_rows, share_so
from turnsigns.tables import heights_of, is_heights, is_table, table_by
from turnsigns.triangles import all_triangles, is_triangle, many_triangles, table_of_triangle, triangle_of
from turnsigns.turned import least_turned, left_so, own_turns, turned
from turnsigns.weights import by_minus, minus_many, turned_pairs, weighed

OF_ANYTHING = (is_table, is_heights, is_net, is_triangle)
REFUSING = (
    (heights_of, table_by, net_of, table_of_net, kinds_of, triangle_of, table_of_triangle, many_triangles)
    + (all_triangles, many_tables, all_tables, number_of, own_turns, least_turned, steps_of, steps_from_lowest)
    + (minus_many, turned_pairs, by_minus, table_text, table_read, lambda thing: Desk().say(thing))
    + (lambda thing: kind_at(thing, 0, 0), lambda thing: turned(thing, "left"), lambda thing: stepped(thing, (1, 1)))
)
OF_TWO = (
    (many_first, 3, 2),
    (table_at, 4, 7),
    (turned, samples.CROSS, "left"),
    (left_so, 4, "half"),
    (is_below, samples.CROSS, samples.unit_table(3)),
    (both_below, samples.CROSS, samples.unit_table(3)),
    (both_above, samples.CROSS, samples.unit_table(3)),
    (stepped, samples.CROSS, (2, 1)),
    (weighed, 4, -3),
    (many_so, 3, ((0, 1, 0),)),
    (share_so, 3, ((0, 1, 0),)),
    (next_rows, 3, ((0, 1, 0),)),
)
TELLING_LISTS = [(all_triangles, (1, 3, 6, 8)), (all_triangles, (5,)), (all_tables, 1), (all_tables, 4)]
TELLING_LISTS += [(own_turns, table) for table in samples.SOME_TABLES]
TELLING_LISTS += [(left_so, side, turn) for side in (1, 2, 3, 4) for turn in samples.TURNS]
TELLING_LISTS += [(steps_of, table) for table in samples.SOME_TABLES]
TELLING_LISTS += [(by_minus, side) for side in (1, 2, 3, 4, 5)]
TELLING_LISTS += [(next_rows, len(table), table[:many]) for table in samples.SOME_TABLES for many in (0, 1, len(table))]


def told(deed, *things):
    """The written form of what is told, or the class of the refusal."""
    refused = samples.refusal(deed, *things)
    return repr(deed(*things)) if refused is None else type(refused)


class Asked(unittest.TestCase):
    def test_what_is_handed_in_is_as_it_was(self):
        for thing in samples.STRANGE + samples.SOME_TABLES:
            kept = copy.deepcopy(thing)
            for deed in OF_ANYTHING + REFUSING:
                samples.refusal(deed, thing)
            samples.refusal(kind_at, samples.CROSS, thing, thing)
            for deed, one, other in OF_TWO:
                samples.refusal(deed, thing, other)
                samples.refusal(deed, one, thing)
            self.assertEqual(repr(thing), repr(kept))

    def test_asked_again_the_same_is_told(self):
        good = []
        for table in samples.SOME_TABLES:
            good.extend([table, samples.plain_heights(table), samples.plain_net(table), samples.plain_triangle(table)])
        good.extend([1, 4, 6, 40, (1, 3, 6, 8), (8,), (1, 2, 4, 5, 7, 8), "+", "0+0/+-+/0+0", "kept", "table a +"])
        for deed in OF_ANYTHING + REFUSING:
            first = [told(deed, thing) for thing in good + samples.STRANGE]
            again = [told(deed, thing) for thing in good + samples.STRANGE]
            self.assertEqual(first, again)

    def test_asked_again_of_two_the_same_is_told(self):
        for deed, one, other in OF_TWO:
            wanted = told(deed, one, other)
            self.assertIs(type(wanted), str)
            for thing in samples.STRANGE:
                self.assertEqual(told(deed, one, thing), told(deed, one, thing))
                self.assertEqual(told(deed, thing, other), told(deed, thing, other))
            self.assertEqual(told(deed, one, other), wanted)

    def test_a_list_that_was_told_is_the_askers_own(self):
        for deed, *things in TELLING_LISTS:
            first = deed(*things)
            wanted = list(first)
            self.assertIs(type(first), list)
            first.append("more")
            first.reverse()
            second = deed(*things)
            self.assertIsNot(first, second)
            self.assertEqual(second, wanted)
            second.clear()
            self.assertEqual(deed(*things), wanted)

    def test_what_is_handed_in_may_be_changed_later(self):
        row = [1]
        thing = (row,)
        self.assertIs(is_table(thing), False)
        row.append(0)
        self.assertIs(is_table(thing), False)
        self.assertIs(is_table(((1,),)), True)
        across = [(0, 1)]
        self.assertIs(is_net((across, ((0,), (1,)))), False)
        across.clear()
        self.assertIs(is_net((((0, 1),), ((0,), (1,)))), True)

    def test_rows_that_were_handed_in_may_be_changed_later(self):
        rows = [(0, 1, 0)]
        refused = [samples.refusal(deed, 3, rows) for deed in (many_so, share_so, next_rows)]
        self.assertNotIn(None, refused)
        rows.append((1, -1, 1))
        self.assertEqual(many_so(3, tuple(rows)), 1)
        rows.clear()
        self.assertEqual(many_so(3, tuple(rows)), 7)

    def test_a_dict_that_was_told_is_the_askers_own(self):
        for table in samples.SOME_TABLES:
            first = kinds_of(table)
            wanted = dict(first)
            first[(0, 1, 0, 1)] = 99
            first["more"] = 1
            second = kinds_of(table)
            self.assertIsNot(first, second)
            self.assertEqual(second, wanted)
            second.clear()
            self.assertEqual(kinds_of(table), wanted)

    def test_what_was_told_may_be_handed_in_again(self):
        for table in samples.SOME_TABLES:
            self.assertEqual(table_of_net(net_of(table_by(heights_of(table)))), table)
            self.assertEqual(table_of_triangle(triangle_of(table)), table)
            self.assertEqual(table_at(len(table), number_of(table)), table)
            self.assertEqual(turned(turned(table, own_turns(table)[-1]), "left"), turned(table, "left"))
            for place in steps_of(table):
                self.assertIs(is_below(table, stepped(table, place)), True)
            self.assertEqual(table_read(table_text(table)), table)
            rows = ()
            while next_rows(len(table), rows):
                rows += (next_rows(len(table), rows)[0][0],)
            self.assertEqual(number_of(rows), 0)

    def test_arguments_are_handed_in_by_their_places(self):
        self.assertEqual(kind_at(((0, 1), (1, 0)), 0, 1), (0, 1, 0, 1))
        self.assertEqual(kind_at(((1, 0), (0, 1)), 0, 1), (1, 1, 0, 0))
        self.assertEqual(kind_at(((1, 0), (0, 1)), 1, 0), (0, 0, 1, 1))
        self.assertEqual(many_first(3, 2), 3)
        self.assertEqual(table_at(2, 1), ((1, 0), (0, 1)))
        self.assertIs(is_below(((1, 0), (0, 1)), ((0, 1), (1, 0))), True)
        self.assertEqual(weighed(3, 2), 8)
        self.assertEqual(many_so(3, ((0, 1, 0),)), 3)

    def test_a_truth_is_no_whole_number(self):
        table = ((1, 0), (0, 1))
        self.assertIs(is_table(((True, 0), (0, 1))), False)
        self.assertIs(is_heights(((0, False), (0, 1))), False)
        self.assertIs(is_net((((0, True),), ((0,), (1,)))), False)
        for row, column in ((True, 0), (0, True), (False, 0), (0, False)):
            self.assertIsNotNone(samples.refusal(kind_at, table, row, column))
        self.assertIs(is_triangle(((True,),)), False)
        for deed in (many_tables, all_tables, lambda side: many_first(side, 1), lambda side: table_at(side, 0)):
            self.assertIsNotNone(samples.refusal(deed, True))
        calls = [(many_triangles, (True,)), (all_triangles, (True,)), (table_of_triangle, ((True,),))]
        calls += [(many_first, 1, True), (table_at, 1, False), (left_so, True, "stay"), (turned, ((True,),), "stay")]
        calls += [(stepped, table, (True, 1)), (stepped, table, (1, True)), (is_below, ((1,),), ((True,),))]
        calls += [(minus_many, ((True,),)), (turned_pairs, ((True,),)), (by_minus, True), (weighed, True, 1)]
        calls += [(weighed, 1, True), (weighed, 1, False), (table_text, ((True,),)), (table_read, True)]
        calls += [(deed, True, ()) for deed in (many_so, share_so, next_rows)]
        calls += [(deed, 1, ((True,),)) for deed in (many_so, share_so, next_rows)]
        for deed, *things in calls:
            self.assertIsNotNone(samples.refusal(deed, *things), things)


if __name__ == "__main__":
    unittest.main()
