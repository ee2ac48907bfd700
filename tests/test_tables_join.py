import itertools
import random
import unittest

from countcycles.errors import NotTable, TooMuch, UnlikeWidths
from countcycles.rules import Rules
from countcycles.tables import Table
from tests.samples import many_tables, random_rows, values_but


def joined(one, other):
    return one + other


def paired(one, other):
    return one * other


def numbered(width, many, top=99):
    """A table with many rows, all of them different as far as possible."""
    return Table(width, *[tuple((row + at) % (top + 1) for at in range(width)) for row in range(many)])


class AddTest(unittest.TestCase):

    def check(self, width, ones, others):
        one, other = Table(width, *ones), Table(width, *others)
        both = one + other
        self.assertIs(type(both), Table)
        self.assertEqual(both.width, width)
        self.assertEqual(both.rows, tuple(ones) + tuple(others))
        self.assertEqual((one.width, one.rows), (width, tuple(ones)))
        self.assertEqual((other.width, other.rows), (width, tuple(others)))

    def test_rows_behind_each_other(self):
        self.check(2, [(0, 1), (9999, 0)], [(0, 1), (5, 5)])
        self.check(2, [(0, 1)], [(0, 1)])

    def test_many(self):
        for width in range(1, 7):
            tables = many_tables(width)
            for ones, others in zip(tables, tables[7:] + tables[:7]):
                self.check(width, ones, others)

    def test_without_rows(self):
        for width in range(1, 7):
            some = [(3,) * width]
            self.check(width, [], [])
            self.check(width, some, [])
            self.check(width, [], some)

    def test_edges_of_the_number_of_rows(self):
        for ones, others in ((400, 0), (0, 400), (399, 1), (200, 200), (1, 399)):
            self.assertEqual(len(numbered(2, ones) + numbered(2, others)), 400)
            for one, other in ((ones + 1, others), (ones, others + 1)):
                if max(one, other) <= 400:
                    with self.assertRaises(TooMuch) as caught:
                        numbered(2, one) + numbered(2, other)
                    self.assertTrue(str(caught.exception))
        with self.assertRaises(TooMuch):
            numbered(1, 400) + numbered(1, 400)

    def test_large_values(self):
        self.assertEqual((Table(1, (9999,)) + Table(1, (9999,))).rows, ((9999,), (9999,)))

    def test_in_place_makes_a_new_table(self):
        one = first = Table(2, (0, 1))
        one += Table(2, (5, 5))
        self.assertEqual((len(one), len(first)), (2, 1))


class MultiplyTest(unittest.TestCase):

    def check(self, width, ones, others):
        one, other = Table(width, *ones), Table(width, *others)
        both = one * other
        expected = []
        for first in ones:
            for second in others:
                expected.append(tuple(100 * a + b for a, b in zip(first, second)))
        self.assertIs(type(both), Table)
        self.assertEqual(both.width, width)
        self.assertEqual(both.rows, tuple(expected))
        self.assertEqual((one.rows, other.rows), (tuple(ones), tuple(others)))

    def test_order_and_values(self):
        self.assertEqual((Table(2, (0, 1), (2, 99)) * Table(2, (5, 6), (7, 99))).rows,
                         ((5, 106), (7, 199), (205, 9906), (207, 9999)))

    def test_many(self):
        chance = random.Random(12)
        for width in range(1, 7):
            for large in (1, 2, 10, 100):
                for _ in range(10):
                    ones, others = [random_rows(width, chance, 0, 20, large) for _ in range(2)]
                    self.check(width, ones, others)

    def test_without_rows(self):
        for width in range(1, 7):
            some = [(99,) * width, (0,) * width]
            self.check(width, [], [])
            self.check(width, some, [])
            self.check(width, [], some)
            self.assertEqual(len(numbered(width, 400) * Table(width)), 0)
            self.assertEqual(len(Table(width) * numbered(width, 400)), 0)

    def test_edges_of_the_number_of_rows(self):
        for ones, others in ((400, 1), (1, 400), (20, 20), (200, 2), (4, 100)):
            self.assertEqual(len(numbered(2, ones) * numbered(2, others)), 400)
        for ones, others in ((201, 2), (2, 201), (21, 20), (20, 21), (133, 4), (400, 2), (400, 400)):
            with self.assertRaises(TooMuch) as caught:
                numbered(2, ones) * numbered(2, others)
            self.assertTrue(str(caught.exception))

    def test_edges_of_the_values(self):
        low, high = Table(2, (99, 0), (0, 99)), Table(2, (99, 0), (0, 100))
        self.assertEqual((low * low).rows[0], (9999, 0))
        for one, other in ((low, high), (high, low), (high, high)):
            with self.assertRaises(TooMuch) as caught:
                one * other
            self.assertTrue(str(caught.exception))
        for place in range(6):
            row = tuple(100 if at == place else 0 for at in range(6))
            for one, other in ((Table(6, row), Table(6, (0,) * 6)), (Table(6, (0,) * 6), Table(6, row))):
                with self.assertRaises(TooMuch):
                    one * other

    def test_large_values_beside_a_table_without_rows(self):
        for value in (100, 101, 9999):
            with self.assertRaises(TooMuch):
                Table(1, (value,)) * Table(1)
            with self.assertRaises(TooMuch):
                Table(1) * Table(1, (value,))

    def test_what_holds_in_both_holds_in_the_product(self):
        chance = random.Random(13)
        for _ in range(60):
            one = Table(3, *random_rows(3, chance, 1, 5))
            other = Table(3, *random_rows(3, chance, 1, 5))
            both = [rule for rule in one.obeyed().rules if other(rule)]
            self.assertEqual([rule for rule in (one * other).obeyed().rules], both)


class WrongTest(unittest.TestCase):

    def test_not_a_table(self):
        table = Table(2, (0, 1))
        others = [table.rows, table.text(), [table], (table,), (0, 1), [(0, 1)], 2, Rules(2), table.obeyed()]
        for make in (joined, paired):
            for other in others + values_but(Table):
                for one in (table, Table(2), numbered(2, 400), Table(2, (100, 0))):
                    with self.assertRaises(NotTable) as caught:
                        make(one, other)
                self.assertTrue(str(caught.exception))
        self.assertEqual((table.width, table.rows), (2, ((0, 1),)))

    def test_unlike_widths_ahead_of_too_much(self):
        for make in (joined, paired):
            for width, other in itertools.permutations(range(1, 7), 2):
                for ones, others in ((0, 0), (1, 1), (400, 400)):
                    with self.assertRaises(UnlikeWidths) as caught:
                        make(numbered(width, ones), numbered(other, others))
                    self.assertTrue(str(caught.exception))
                with self.assertRaises(UnlikeWidths):
                    make(Table(width, (9999,) * width), Table(other, (9999,) * other))

    def test_a_call_that_fails_changes_nothing(self):
        one, other = numbered(2, 300), numbered(2, 101)
        before = one.rows, other.rows
        for make in (joined, paired):
            with self.assertRaises(TooMuch):
                make(one, other)
        self.assertEqual((one.rows, other.rows), before)


if __name__ == "__main__":
    unittest.main()
