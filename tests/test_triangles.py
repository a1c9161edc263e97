"""Points 30 and 31: triangles, and the interface's row triangles.py."""

import inspect
import unittest
from itertools import product

import samples
from turnsigns import triangles
from turnsigns.errors import NoRow, NoTable, NoTriangle, SignError, TooMany
from turnsigns.triangles import all_triangles, is_triangle, many_triangles, table_of_triangle, triangle_of

CROSS_TRIANGLE = ((2,), (1, 3), (1, 2, 3))
GREATEST = ((8,), (7, 8), (6, 7, 8), (5, 6, 7, 8), (4, 5, 6, 7, 8), (3, 4, 5, 6, 7, 8))
SEVEN_ROWS = tuple(tuple(range(1, many + 1)) for many in range(1, 8))
SOME_TRIANGLES = [samples.plain_triangle(table) for table in samples.SOME_TABLES] + [
    GREATEST,
    ((1,), (1, 8)),
    ((8,), (1, 8)),
    ((4,), (3, 5), (1, 4, 6)),
    ((5,), (3, 5), (2, 4, 8), (1, 3, 6, 8)),
]


def like_rows():
    """Last rows with one thing otherwise, and things of other kinds."""
    rows = [(1,), (8,), (1, 2), (7, 8), (2, 5, 8), (1, 3, 6, 8), (1, 2, 4, 5, 8), (1, 2, 3, 6, 7, 8)]
    things = samples.STRANGE + [thing for row in rows for thing in samples.otherwise(row)]
    return things + [tuple(range(1, 8)), (0,), (9,), (1, 1), (2, 1), (0, 1), (8, 9), (True, 2), ("1",), [1, 2]]


class TriangleOf(unittest.TestCase):
    def test_written_ones(self):
        self.assertEqual(triangle_of(((1,),)), ((1,),))
        self.assertEqual(triangle_of(((0, 1), (1, 0))), ((2,), (1, 2)))
        self.assertEqual(triangle_of(samples.CROSS), CROSS_TRIANGLE)

    def test_it_is_the_columns_that_come_to_1(self):
        for table in samples.ALL_TABLES:
            self.assertEqual(repr(triangle_of(table)), repr(samples.plain_triangle(table)))

    def test_the_last_row_has_all(self):
        for table in samples.SOME_TABLES:
            self.assertEqual(triangle_of(table)[-1], tuple(range(1, len(table) + 1)))

    def test_what_is_no_table_is_refused(self):
        for thing in samples.NOT_TABLES:
            self.assertIs(type(samples.refusal(triangle_of, thing)), NoTable, thing)


class IsTriangle(unittest.TestCase):
    def test_those_of_every_table_are(self):
        for table in samples.ALL_TABLES:
            self.assertIs(is_triangle(samples.plain_triangle(table)), True, table)

    def test_written_ones(self):
        for triangle in SOME_TRIANGLES:
            self.assertIs(is_triangle(triangle), True, triangle)

    def test_every_one_of_a_last_row_is(self):
        for row in samples.LAST_ROWS:
            if len(row) <= 4:
                for triangle in samples.plain_triangles(row):
                    self.assertIs(is_triangle(triangle), True, triangle)

    def test_of_all_small_ones_just_triangles_are(self):
        numbers = range(-1, 10)
        for a in numbers:
            self.assertIs(is_triangle(((a,),)), 1 <= a <= 8)
        for a, b, c in product(numbers, repeat=3):
            self.assertIs(is_triangle(((a,), (b, c))), 1 <= b < c <= 8 and b <= a <= c, (a, b, c))
        for a, b, c, d, e, f in product(range(4), repeat=6):
            thing = ((a,), (b, c), (d, e, f))
            self.assertIs(is_triangle(thing), samples.plain_is_triangle(thing), thing)

    def test_one_to_six_rows(self):
        self.assertIs(is_triangle(()), False)
        self.assertIs(is_triangle(((),)), False)
        self.assertIs(is_triangle(SEVEN_ROWS[:6]), True)
        self.assertIs(is_triangle(SEVEN_ROWS), False)
        self.assertIs(is_triangle(SEVEN_ROWS[::-1]), False)

    def test_numbers_from_1_to_8(self):
        self.assertIs(is_triangle(((1,),)), True)
        self.assertIs(is_triangle(((8,),)), True)
        self.assertIs(is_triangle(((0,),)), False)
        self.assertIs(is_triangle(((9,),)), False)
        self.assertIs(is_triangle(((8,), (8, 9))), False)
        self.assertIs(is_triangle(((1,), (0, 1))), False)

    def test_rows_rise(self):
        self.assertIs(is_triangle(((2,), (2, 2))), False)
        self.assertIs(is_triangle(((2,), (3, 1))), False)
        self.assertIs(is_triangle(((2,), (2, 2), (1, 2, 3))), False)

    def test_each_number_lies_between_two(self):
        self.assertIs(is_triangle(((2,), (3, 4))), False)
        self.assertIs(is_triangle(((5,), (3, 4))), False)
        self.assertIs(is_triangle(((3,), (1, 4), (1, 2, 3))), False)
        self.assertIs(is_triangle(((3,), (1, 3), (2, 3, 4))), False)

    def test_a_truth_is_no_number(self):
        self.assertIs(is_triangle(((True,),)), False)
        self.assertIs(is_triangle(((1,), (True, 2))), False)
        self.assertIs(is_triangle(((True,), (1, 2))), False)

    def test_one_thing_otherwise(self):
        for triangle in SOME_TRIANGLES:
            for thing in samples.otherwise(triangle):
                self.assertIs(is_triangle(thing), samples.plain_is_triangle(thing), thing)

    def test_things_of_other_kinds(self):
        for thing in samples.STRANGE + samples.ALL_TABLES[:100]:
            self.assertIs(is_triangle(thing), samples.plain_is_triangle(thing), thing)


class TableOfTriangle(unittest.TestCase):
    def test_written_ones(self):
        self.assertEqual(table_of_triangle(((1,),)), ((1,),))
        self.assertEqual(table_of_triangle(CROSS_TRIANGLE), samples.CROSS)

    def test_the_table_of_a_triangle_is_the_table_again(self):
        for table in samples.ALL_TABLES:
            self.assertEqual(repr(table_of_triangle(samples.plain_triangle(table))), repr(table))

    def test_every_one_whose_last_row_has_all_has_a_table(self):
        for side in samples.SIDES:
            told = [table_of_triangle(one) for one in samples.plain_triangles(tuple(range(1, side + 1)))]
            self.assertEqual(sorted(told), sorted(samples.TABLES[side]))

    def test_one_with_another_last_row_is_refused(self):
        others = [((2,),), ((8,),), ((1,), (1, 3)), ((2,), (2, 3)), GREATEST]
        others += [one for row in samples.LAST_ROWS if len(row) <= 3 for one in samples.plain_triangles(row)]
        for triangle in others:
            if triangle[-1] != tuple(range(1, len(triangle) + 1)):
                self.assertIs(is_triangle(triangle), True, triangle)
                self.assertIs(type(samples.refusal(table_of_triangle, triangle)), NoTriangle, triangle)

    def test_what_is_no_triangle_is_refused(self):
        for thing in samples.STRANGE + [SEVEN_ROWS, samples.CROSS, (), ((),), ((2,), (1, 1), (1, 2, 3))]:
            self.assertIs(type(samples.refusal(table_of_triangle, thing)), NoTriangle, thing)

    def test_one_thing_otherwise_is_refused(self):
        right = {repr(samples.plain_triangle(table)) for table in samples.ALL_TABLES}
        for table in samples.SOME_TABLES:
            for thing in samples.otherwise(samples.plain_triangle(table)):
                if repr(thing) in right:
                    self.assertEqual(samples.plain_triangle(table_of_triangle(thing)), thing)
                else:
                    self.assertIs(type(samples.refusal(table_of_triangle, thing)), NoTriangle, thing)


class ManyTriangles(unittest.TestCase):
    def test_written_ones(self):
        for side, many in zip(samples.SIDES, (1, 2, 7, 42, 429, 7436)):
            self.assertEqual(many_triangles(tuple(range(1, side + 1))), many)
            self.assertEqual(many_triangles(tuple(range(9 - side, 9))), many)
        self.assertEqual(many_triangles((8,)), 1)
        self.assertEqual(many_triangles((1, 8)), 8)

    def test_by_telling_all(self):
        for row in samples.LAST_ROWS:
            if len(row) <= 5 or row[-1] - row[0] <= 6:
                self.assertEqual(many_triangles(row), sum(1 for one in samples.plain_triangles(row)), row)

    def test_of_six_numbers_by_those_of_five(self):
        for row in samples.LAST_ROWS:
            if len(row) == 6:
                self.assertEqual(many_triangles(row), sum(map(many_triangles, samples.ROWS_OVER[row])), row)

    def test_what_is_no_last_row_is_refused(self):
        for thing in like_rows():
            if samples.plain_is_last_row(thing):
                self.assertIs(type(many_triangles(thing)), int)
            else:
                self.assertIs(type(samples.refusal(many_triangles, thing)), NoRow, thing)


class AllTriangles(unittest.TestCase):
    def test_written_ones(self):
        self.assertEqual(all_triangles((1,)), [((1,),)])
        self.assertEqual(all_triangles((8,)), [((8,),)])
        self.assertEqual(all_triangles((1, 3)), [((1,), (1, 3)), ((2,), (1, 3)), ((3,), (1, 3))])
        self.assertEqual(all_triangles((7, 8)), [((7,), (7, 8)), ((8,), (7, 8))])

    def test_they_are_all_and_rise(self):
        for row in samples.LAST_ROWS:
            if len(row) <= 4:
                self.assertEqual(repr(all_triangles(row)), repr(sorted(samples.plain_triangles(row))))

    def test_more_than_four_numbers_are_too_many(self):
        for row in samples.LAST_ROWS:
            refused = samples.refusal(all_triangles, row)
            self.assertIs(type(refused), TooMany if len(row) > 4 else type(None), row)

    def test_what_is_no_last_row_is_refused_ahead_of_too_many(self):
        wrong = [(1, 2, 3, 4, 9), (0, 1, 2, 3, 4), (1, 2, 3, 4, 4), (1, 2, 3, 4, "5"), [1, 2, 3, 4, 5]]
        wrong += [(True, 2, 3, 4, 5), tuple(range(1, 8)), tuple(range(1, 10)), (6, 5, 4, 3, 2, 1)]
        for thing in wrong + like_rows():
            if not samples.plain_is_last_row(thing):
                self.assertIs(type(samples.refusal(all_triangles, thing)), NoRow, thing)


class Interface(unittest.TestCase):
    def test_names_and_arguments(self):
        wanted = {
            "triangle_of": ["table"],
            "is_triangle": ["thing"],
            "table_of_triangle": ["triangle"],
            "many_triangles": ["row"],
            "all_triangles": ["row"],
        }
        for name, arguments in wanted.items():
            self.assertEqual(list(inspect.signature(getattr(triangles, name)).parameters), arguments)

    def test_kinds(self):
        self.assertIs(type(many_triangles((1, 2))), int)
        self.assertIs(type(all_triangles((1, 2))), list)
        self.assertIs(type(triangle_of(samples.CROSS)), tuple)

    def test_refusals_are_sign_errors_and_value_errors(self):
        calls = [(triangle_of, None), (table_of_triangle, None), (many_triangles, None), (all_triangles, None)]
        for deed, thing in calls + [(all_triangles, (1, 2, 3, 4, 5))]:
            told = samples.refusal(deed, thing)
            self.assertIsInstance(told, SignError)
            self.assertIsInstance(told, ValueError)
            self.assertIsInstance(told.args[0], str)


if __name__ == "__main__":
    unittest.main()
