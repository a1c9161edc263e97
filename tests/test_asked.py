"""Point 1: what holds for everything that is asked."""

import copy
import unittest

import samples
from turnsigns.nets import is_net, kind_at, kinds_of, net_of, table_of_net
from turnsigns.tables import heights_of, is_heights, is_table, table_by

OF_ANYTHING = (is_table, is_heights, is_net)
REFUSING = (heights_of, table_by, net_of, table_of_net, kinds_of, lambda thing: kind_at(thing, 0, 0))


def told(deed, *things):
    """The written form of what is told, or the class of the refusal."""
    refused = samples.refusal(deed, *things)
    return repr(deed(*things)) if refused is None else type(refused)


class Asked(unittest.TestCase):
    def test_what_is_handed_in_is_as_it_was(self):
        for thing in samples.STRANGE + samples.SOME_TABLES:
            kept = copy.deepcopy(thing)
            for deed in OF_ANYTHING + REFUSING:
                samples.refusal(deed, thing)
            samples.refusal(kind_at, samples.CROSS, thing, thing)
            self.assertEqual(repr(thing), repr(kept))

    def test_asked_again_the_same_is_told(self):
        good = []
        for table in samples.SOME_TABLES:
            good.extend([table, samples.plain_heights(table), samples.plain_net(table)])
        for deed in OF_ANYTHING + REFUSING:
            first = [told(deed, thing) for thing in good + samples.STRANGE]
            again = [told(deed, thing) for thing in good + samples.STRANGE]
            self.assertEqual(first, again)

    def test_what_is_handed_in_may_be_changed_later(self):
        row = [1]
        thing = (row,)
        self.assertIs(is_table(thing), False)
        row.append(0)
        self.assertIs(is_table(thing), False)
        self.assertIs(is_table(((1,),)), True)
        across = [(0, 1)]
        self.assertIs(is_net((across, ((0,), (1,)))), False)
        across.clear()
        self.assertIs(is_net((((0, 1),), ((0,), (1,)))), True)

    def test_a_dict_that_was_told_is_the_askers_own(self):
        for table in samples.SOME_TABLES:
            first = kinds_of(table)
            wanted = dict(first)
            first[(0, 1, 0, 1)] = 99
            first["more"] = 1
            second = kinds_of(table)
            self.assertIsNot(first, second)
            self.assertEqual(second, wanted)
            second.clear()
            self.assertEqual(kinds_of(table), wanted)

    def test_what_was_told_may_be_handed_in_again(self):
        for table in samples.SOME_TABLES:
            self.assertEqual(table_of_net(net_of(table_by(heights_of(table)))), table)

    def test_arguments_are_handed_in_by_their_places(self):
        self.assertEqual(kind_at(((0, 1), (1, 0)), 0, 1), (0, 1, 0, 1))
        self.assertEqual(kind_at(((1, 0), (0, 1)), 0, 1), (1, 1, 0, 0))
        self.assertEqual(kind_at(((1, 0), (0, 1)), 1, 0), (0, 0, 1, 1))

    def test_a_truth_is_no_whole_number(self):
        table = ((1, 0), (0, 1))
        self.assertIs(is_table(((True, 0), (0, 1))), False)
        self.assertIs(is_heights(((0, False), (0, 1))), False)
        self.assertIs(is_net((((0, True),), ((0,), (1,)))), False)
        for row, column in ((True, 0), (0, True), (False, 0), (0, False)):
            self.assertIsNotNone(samples.refusal(kind_at, table, row, column))


if __name__ == "__main__":
    unittest.main()
