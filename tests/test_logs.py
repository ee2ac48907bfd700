import unittest

from countcycles.errors import NoNumber, NoRow, NothingDone, NotRules, NotTable, NotThere, UnlikeWidths
from countcycles.logs import Log, Short, Strict, StrictShort
from countcycles.rules import Rules
from countcycles.tables import Table
from tests.samples import CLASSES, SHORT, any_values, near_rows, state, values_but


class CreationTest(unittest.TestCase):

    def test_at_first(self):
        for make in CLASSES:
            for width in range(1, 7):
                rules = Rules(width)
                log = make(rules)
                self.assertIs(type(log), make)
                self.assertEqual(log.rules, rules)
                self.assertIs(type(log.table), Table)
                self.assertEqual((log.table.width, log.table.rows), (width, ()))
                self.assertEqual((log.broken, log.changes, len(log)), ((), 0, 0))
                self.assertIs(type(log.broken), tuple)
                self.assertIs(type(log.changes), int)

    def test_families(self):
        rules = Rules(2)
        for make, kinds in ((Log, (Log,)), (Strict, (Strict, Log)), (Short, (Short, Log)), (StrictShort, CLASSES)):
            for kind in CLASSES:
                self.assertIs(isinstance(make(rules), kind), kind in kinds)

    def test_repr_uses_the_same_word_for_every_number(self):
        for make in CLASSES:
            log = make(Rules(1))
            self.assertEqual(repr(log), f"{make.__name__}(0 rows)")
            log.add((0,))
            self.assertEqual(repr(log), f"{make.__name__}(1 rows)")
            log.add((0,))
            self.assertEqual(repr(log), f"{make.__name__}(2 rows)")

    def test_not_rules(self):
        rules = Rules(2)
        for make in CLASSES:
            for wrong in any_values() + [rules.rules, rules.text(), [rules], (rules,), Table(2), make(rules)]:
                with self.assertRaises(NotRules) as caught:
                    make(wrong)
                self.assertTrue(str(caught.exception))

    def test_by_names(self):
        for make in CLASSES:
            log = make(rules=Rules(2))
            log.add(row=(0, 1))
            log(row=(0, 1))
            log.drop(row=(0, 1))
            log.assign_table(table=Table(2, (5, 5)))
            self.assertEqual(log.table.rows, ((5, 5),))
        for make in SHORT:
            self.assertEqual(make(rules=Rules(2), most=3).most, 3)

    def test_most(self):
        for make in SHORT:
            self.assertEqual(make(Rules(2)).most, 10)
            for most in (0, 1, 10, 399, 400):
                log = make(Rules(2), most)
                self.assertEqual(log.most, most)
                self.assertIs(type(log.most), int)

    def test_no_number(self):
        for make in SHORT:
            for wrong in (-1, 401, 402, 10 ** 12, True, False, None, "10", "", (10,), [10], {10: 10}, Rules(2),
                          Table(2)):
                with self.subTest(wrong=wrong), self.assertRaises(NoNumber) as caught:
                    make(Rules(2), wrong)
                self.assertTrue(str(caught.exception))

    def test_not_rules_ahead_of_no_number(self):
        for make in SHORT:
            for wrong in (-1, 401, True, None, "10"):
                with self.assertRaises(NotRules):
                    make(None, wrong)

    def test_only_the_table_can_be_assigned(self):
        for make in CLASSES:
            log = make(Rules(2, ("within", 0, 1)))
            log.add((0, 1))
            before = state(log)
            for name in ("rules", "broken", "changes") + (("most",) if make in SHORT else ()):
                with self.assertRaises(AttributeError):
                    setattr(log, name, getattr(log, name))
            self.assertEqual(state(log), before)

    def test_logs_do_not_share_anything(self):
        rules = Rules(1)
        for make in CLASSES:
            one, other = make(rules), make(rules)
            one.add((1,))
            self.assertEqual((len(one), len(other), one.changes, other.changes), (1, 0, 1, 0))


class AddTest(unittest.TestCase):

    def test_behind_the_others(self):
        for make in CLASSES:
            log = make(Rules(2))
            for number, add in enumerate((log.add, log, log.add, log)):
                self.assertIsNone(add((9 - number, 9999)))
                self.assertEqual(log.table.rows, tuple((9 - at, 9999) for at in range(number + 1)))
                self.assertEqual((len(log), log.changes), (number + 1, number + 1))

    def test_the_same_row_again(self):
        for make in CLASSES:
            log = make(Rules(2, ("settles", 0, 1)))
            for _ in range(3):
                log((4, 4))
            self.assertEqual(log.table.rows, ((4, 4),) * 3)

    def test_no_row(self):
        for make in CLASSES:
            for width in (1, 2, 6):
                row = tuple(range(width))
                log = make(Rules(width))
                log.add(row)
                before = state(log)
                for wrong in near_rows(row) + [(0,) * other for other in range(8) if other != width]:
                    for call in (log.add, log, log.drop):
                        with self.subTest(wrong=wrong), self.assertRaises(NoRow) as caught:
                            call(wrong)
                        self.assertTrue(str(caught.exception))
                self.assertEqual(state(log), before)

    def test_any_value(self):
        for make in CLASSES:
            log = make(Rules(2))
            for wrong in values_but(()):
                for call in (log.add, log, log.drop):
                    with self.assertRaises(NoRow):
                        call(wrong)
            self.assertEqual((len(log), log.changes), (0, 0))


class DropTest(unittest.TestCase):

    def test_the_last_equal_row(self):
        for make in CLASSES:
            log = make(Rules(2))
            log.table = Table(2, (1, 1), (0, 0), (1, 1), (2, 2), (1, 1), (3, 3))
            self.assertIsNone(log.drop((1, 1)))
            self.assertEqual(log.table.rows, ((1, 1), (0, 0), (1, 1), (2, 2), (3, 3)))
            log.drop((1, 1))
            self.assertEqual(log.table.rows, ((1, 1), (0, 0), (2, 2), (3, 3)))
            log.drop((1, 1))
            log.drop((3, 3))
            self.assertEqual(log.table.rows, ((0, 0), (2, 2)))
            self.assertEqual(log.changes, 5)
            with self.assertRaises(NotThere) as caught:
                log.drop((1, 1))
            self.assertTrue(str(caught.exception))
            self.assertEqual((log.table.rows, log.changes), (((0, 0), (2, 2)), 5))

    def test_not_there(self):
        for make in CLASSES:
            log = make(Rules(2))
            for row in ((0, 0), (0, 1), (9999, 9999)):
                with self.assertRaises(NotThere):
                    log.drop(row)
            log.add((0, 1))
            with self.assertRaises(NotThere):
                log.drop((1, 0))

    def test_no_row_ahead_of_not_there(self):
        for make in CLASSES:
            for wrong in ((0,), [0, 1], (0, True), (0, 10000), None):
                with self.assertRaises(NoRow):
                    make(Rules(2)).drop(wrong)


class AssignTest(unittest.TestCase):

    def test_both_ways(self):
        table = Table(2, (5, 6), (1, 2), (5, 6))
        for make in CLASSES:
            log = make(Rules(2))
            log.table = table
            self.assertEqual((log.table.rows, log.changes), (table.rows, 1))
            log.table = Table(2)
            self.assertEqual((log.table.rows, log.changes), ((), 2))
            self.assertIsNone(log.assign_table(table))
            self.assertEqual((log.table.rows, log.changes), (table.rows, 3))
            log.table = table
            self.assertEqual(log.changes, 4)

    def test_tables_do_not_change(self):
        for make in CLASSES:
            table = Table(2, (5, 6))
            log = make(Rules(2))
            log.table = table
            log.add((5, 6))
            read = log.table
            log.drop((5, 6))
            log.undo()
            log.add((1, 1))
            self.assertEqual((table.rows, read.rows), (((5, 6),), ((5, 6), (5, 6))))

    def test_wrong_tables(self):
        def assigned(log, value):
            log.table = value

        for make in CLASSES:
            log = make(Rules(2))
            log.add((0, 1))
            before = state(log)
            for call in (assigned, make.assign_table):
                for wrong in values_but(Table) + [((0, 1),), "0 1\n", [Table(2)], log]:
                    with self.assertRaises(NotTable) as caught:
                        call(log, wrong)
                    self.assertTrue(str(caught.exception))
                for width in (1, 3, 4, 5, 6):
                    for many in (0, 1, 400):
                        with self.assertRaises(UnlikeWidths) as caught:
                            call(log, Table(width, *[(0,) * width] * many))
                        self.assertTrue(str(caught.exception))
            self.assertEqual(state(log), before)


class BrokenTest(unittest.TestCase):

    def test_in_their_order(self):
        rules = Rules(3, ("within", 2, 0), ("settles", 0, 1), ("within", 0, 1), ("settles", 1, 2))
        log = Log(rules)
        log.table = Table(3, (0, 1, 2), (0, 2, 2), (0, 1, 1))
        self.assertEqual(log.broken, (("within", 2, 0), ("settles", 0, 1), ("within", 0, 1), ("settles", 1, 2)))
        log.drop((0, 1, 1))
        self.assertEqual(log.broken, (("within", 2, 0), ("settles", 0, 1), ("within", 0, 1)))
        log.table = Table(3)
        self.assertEqual(log.broken, ())

    def test_only_given_rules(self):
        log = Log(Rules(3, ("settles", 0, 1), ("settles", 1, 2)))
        log.table = Table(3, (0, 1, 2), (0, 2, 3))
        self.assertEqual(log.broken, (("settles", 0, 1),))

    def test_within_is_not_refused(self):
        for make in CLASSES:
            log = make(Rules(2, ("within", 0, 1)))
            log.add((0, 1))
            self.assertEqual(log.broken, (("within", 0, 1),))
            log.add((1, 0))
            self.assertEqual(log.broken, ())
            log.table = Table(2, (3, 4))
            self.assertEqual(log.broken, (("within", 0, 1),))

    def test_nothing_done(self):
        for make in CLASSES:
            log = make(Rules(2))
            with self.assertRaises(NothingDone) as caught:
                log.undo()
            self.assertTrue(str(caught.exception))
            log.add((0, 0))
            self.assertIsNone(log.undo())
            with self.assertRaises(NothingDone):
                log.undo()
            self.assertEqual((len(log), log.changes), (0, 0))


if __name__ == "__main__":
    unittest.main()
