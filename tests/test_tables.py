import copy
import itertools
import random
import unittest

from countcycles.errors import NoRows, NoWidth
from countcycles.rules import Rules
from countcycles.tables import Table
from tests.samples import NO_WIDTHS, any_values, many_tables, near_rows, values_but


class CreationTest(unittest.TestCase):

    def test_right_calls_tell_their_values(self):
        for width in range(1, 7):
            for rows in many_tables(width):
                made = Table(width, *rows)
                self.assertEqual(made.width, width)
                self.assertIs(type(made.width), int)
                self.assertEqual(made.rows, tuple(rows))
                self.assertIs(type(made.rows), tuple)
                self.assertEqual(len(made), len(rows))
                self.assertEqual(repr(made), f"Table({width} columns, {len(rows)} rows)")

    def test_counts(self):
        self.assertEqual(Table(3).counts, (0, 0, 0))
        self.assertEqual(Table(1, (7,)).counts, (1,))
        self.assertEqual(Table(3, (0, 3, 5), (1, 3, 5), (0, 4, 5), (0, 4, 5)).counts, (2, 2, 1))
        for width in range(1, 7):
            for rows in many_tables(width):
                counts = Table(width, *rows).counts
                self.assertIs(type(counts), tuple)
                self.assertEqual(counts, tuple(len({row[at] for row in rows}) for at in range(width)))

    def test_repr_uses_the_same_words_for_all_numbers(self):
        self.assertEqual(repr(Table(1)), "Table(1 columns, 0 rows)")
        self.assertEqual(repr(Table(1, (0,))), "Table(1 columns, 1 rows)")
        self.assertEqual(repr(Table(3, *[(1, 2, 3)] * 5)), "Table(3 columns, 5 rows)")

    def test_a_row_several_times(self):
        self.assertEqual(Table(2, (1, 2), (1, 2)).rows, ((1, 2), (1, 2)))
        self.assertEqual(len(Table(1, (1,), (1,), (1,))), 3)

    def test_edges_of_the_values(self):
        self.assertEqual(Table(2, (0, 9999)).rows, ((0, 9999),))
        for row in ((0, 10000), (10000, 0), (-1, 0), (0, -1)):
            with self.assertRaises(NoRows):
                Table(2, row)

    def test_edges_of_the_number_of_rows(self):
        for width in (1, 6):
            row = (3,) * width
            self.assertEqual(len(Table(width, *[row] * 400)), 400)
            for many in (401, 402, 500, 1000):
                with self.assertRaises(NoRows):
                    Table(width, *[row] * many)

    def test_width_by_name(self):
        self.assertEqual(Table(width=3).width, 3)

    def test_one_value_changed(self):
        for width in range(1, 7):
            for rows in many_tables(width)[::6]:
                for place, row in enumerate(rows):
                    for wrong in near_rows(row):
                        with self.subTest(width=width, wrong=wrong), self.assertRaises(NoRows) as caught:
                            Table(width, *rows[:place], wrong, *rows[place + 1:])
                        self.assertTrue(str(caught.exception))

    def test_a_row_of_another_width(self):
        for width, other in itertools.permutations(range(1, 7), 2):
            with self.assertRaises(NoRows):
                Table(width, (0,) * other)
            with self.assertRaises(NoRows):
                Table(width, (0,) * width, (0,) * other)

    def test_any_value_as_row(self):
        for wrong in values_but(()):
            for rows in ((wrong,), ((1, 2), wrong), (wrong, wrong)):
                with self.assertRaises(NoRows):
                    Table(2, *rows)

    def test_no_width(self):
        for width in NO_WIDTHS + tuple(any_values()):
            with self.subTest(width=width), self.assertRaises(NoWidth) as caught:
                Table(width)
            self.assertTrue(str(caught.exception))

    def test_no_width_ahead_of_wrong_rows(self):
        for width in NO_WIDTHS:
            for rows in (((0, 1),), (None,), ([0, 1],), ((0, 1),) * 401):
                with self.assertRaises(NoWidth):
                    Table(width, *rows)

    def test_arguments_stay(self):
        wrong = [[0, 1], {0: [1]}, ([0], 1)]
        before = copy.deepcopy(wrong)
        for value in wrong:
            with self.assertRaises(NoRows):
                Table(2, value)
        self.assertEqual(wrong, before)

    def test_values_cannot_be_assigned(self):
        table = Table(2, (0, 1))
        for name in ("width", "rows", "counts"):
            with self.assertRaises(AttributeError):
                setattr(table, name, (1, 1))
        self.assertEqual((table.width, table.rows, table.counts), (2, ((0, 1),), (1, 1)))

    def test_a_list_passed_with_a_star_may_change_later(self):
        given = [(0, 1)]
        table = Table(2, *given)
        given.append((5, 5))
        self.assertEqual(table.rows, ((0, 1),))


class EqualTest(unittest.TestCase):

    def test_equal_in_any_order(self):
        chance = random.Random(10)
        for width in range(1, 7):
            for rows in many_tables(width):
                others = chance.sample(rows, len(rows))
                self.assertIs(Table(width, *rows) == Table(width, *others), True)
                self.assertIs(Table(width, *rows) != Table(width, *others), False)

    def test_each_row_as_often(self):
        one, other = (0, 1), (1, 0)
        self.assertFalse(Table(2, one, one, other) == Table(2, one, other, other))
        self.assertFalse(Table(2, one, one) == Table(2, one))
        self.assertFalse(Table(2, one) == Table(2, one, one))
        self.assertFalse(Table(2, one) == Table(2))
        self.assertFalse(Table(2, one) == Table(2, other))
        self.assertTrue(Table(2, one, other, one) == Table(2, other, one, one))

    def test_unlike_tables(self):
        tables = [(width, rows) for width in (1, 2, 3) for rows in many_tables(width)[::2]]
        for (width, rows), (other_width, others) in itertools.product(tables, tables):
            same = width == other_width and sorted(rows) == sorted(others)
            self.assertIs(Table(width, *rows) == Table(other_width, *others), same)

    def test_the_width_counts(self):
        for width, other in itertools.permutations(range(1, 7), 2):
            self.assertFalse(Table(width) == Table(other))

    def test_equal_to_nothing_else(self):
        table = Table(2, (0, 1))
        others = [table.rows, list(table.rows), table.text(), repr(table), (2, table.rows), (table,), [table], 1, 2,
                  Rules(2), table.obeyed()]
        for other in others + values_but(Table):
            self.assertIs(table == other, False)
            self.assertIs(other == table, False)
            self.assertIs(table != other, True)
        self.assertFalse(Table(1) == ())
        self.assertFalse(Table(1) == "")
        self.assertFalse(Table(2) == Rules(2))
        self.assertFalse(Rules(2) == Table(2))


if __name__ == "__main__":
    unittest.main()
