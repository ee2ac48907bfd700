"""Point 61 and the order of the exceptions of logs."""

import random
import unittest

from countcycles.errors import Broken, NoRow, NotTable, TooMuch, UnlikeWidths
from countcycles.logs import Log, Short, Strict, StrictShort
from countcycles.rules import Rules
from countcycles.tables import Table
from tests.samples import CLASSES, SHORT, plainly_holds, random_rows, rules_for, state


def assigned(log, table):
    log.table = table


def adding(log):
    return log.add, log


def assigning(log):
    return log.assign_table, lambda table: assigned(log, table)


class RefuseTest(unittest.TestCase):

    def refused(self, log, error, call, value):
        before = state(log)
        with self.assertRaises(error) as caught:
            call(value)
        self.assertIs(type(caught.exception), error)
        self.assertTrue(str(caught.exception))
        self.assertEqual(state(log), before)

    def test_strict_rows(self):
        for make in (Strict, StrictShort):
            log = make(Rules(2, ("settles", 0, 1)))
            log.add((0, 5))
            for call in adding(log):
                self.refused(log, Broken, call, (0, 6))
            log.add((1, 6))
            log.add((0, 5))
            for call in adding(log):
                self.refused(log, Broken, call, (1, 5))
            self.assertEqual(log.table.rows, ((0, 5), (1, 6), (0, 5)))

    def test_strict_tables(self):
        for make in (Strict, StrictShort):
            log = make(Rules(2, ("settles", 0, 1)))
            for call in assigning(log):
                self.refused(log, Broken, call, Table(2, (0, 5), (0, 6)))
                call(Table(2, (0, 5), (1, 5)))

    def test_only_given_rules_that_say_settles(self):
        for make in (Strict, StrictShort):
            log = make(Rules(2, ("within", 0, 1)))
            log.add((0, 1))
            log.add((0, 2))
            self.assertEqual(log.broken, (("within", 0, 1),))
            self.assertEqual(len(log), 2)

    def test_the_other_classes_do_not_refuse(self):
        for make in (Log, Short):
            log = make(Rules(2, ("settles", 0, 1)))
            log.add((0, 5))
            log((0, 6))
            log.table = Table(2, (1, 5), (1, 6))
            self.assertEqual(log.broken, (("settles", 0, 1),))

    def test_what_is_dropped_may_return(self):
        for make in (Strict, StrictShort):
            log = make(Rules(2, ("settles", 0, 1)))
            log.add((0, 5))
            log.drop((0, 5))
            log.add((0, 6))
            self.assertEqual(log.table.rows, ((0, 6),))

    def test_most(self):
        for make in SHORT:
            for most in (0, 1, 3, 10, 400):
                log = make(Rules(1), most)
                for call in assigning(log):
                    call(Table(1, *[(7,)] * most))
                    if most < 400:
                        self.refused(log, TooMuch, call, Table(1, *[(7,)] * (most + 1)))
                for call in adding(log):
                    self.refused(log, TooMuch, call, (7,))
                if most:
                    log.drop((7,))
                    log.add((8,))
                self.assertEqual(len(log), most)

    def test_most_by_default(self):
        for make in SHORT:
            log = make(Rules(1))
            for number in range(10):
                log.add((number,))
            for call in adding(log):
                self.refused(log, TooMuch, call, (10,))

    def test_four_hundred_rows(self):
        for make in CLASSES:
            log = make(Rules(1), 400) if make in SHORT else make(Rules(1))
            log.table = Table(1, *[(7,)] * 399)
            log.add((8,))
            self.assertEqual(len(log), 400)
            for call in adding(log):
                self.refused(log, TooMuch, call, (9,))

    def test_no_row_ahead_of_the_others(self):
        for make in SHORT:
            log = make(Rules(2, ("settles", 0, 1)), 1)
            log.add((0, 5))
            for wrong in ((0,), (0, True), [0, 6], (0, 10000), None):
                for call in adding(log):
                    self.refused(log, NoRow, call, wrong)
        strict = Strict(Rules(2, ("settles", 0, 1)))
        strict.add((0, 5))
        for call in adding(strict):
            self.refused(strict, NoRow, call, (0, 10000))

    def test_too_much_ahead_of_broken(self):
        log = StrictShort(Rules(2, ("settles", 0, 1)), 1)
        log.add((0, 5))
        for call in adding(log):
            self.refused(log, TooMuch, call, (0, 6))
        for call in assigning(log):
            self.refused(log, TooMuch, call, Table(2, (0, 5), (0, 6)))
        strict = Strict(Rules(2, ("settles", 0, 1)))
        strict.table = Table(2, *[(0, 5)] * 400)
        for call in adding(strict):
            self.refused(strict, TooMuch, call, (0, 6))

    def test_unlike_widths_ahead_of_the_others(self):
        for make in SHORT:
            log = make(Rules(2, ("settles", 0, 1)), 1)
            for call in assigning(log):
                self.refused(log, UnlikeWidths, call, Table(3, (0, 5, 0), (0, 6, 0)))
                self.refused(log, NotTable, call, ((0, 5), (0, 6)))
        strict = Strict(Rules(2, ("settles", 0, 1)))
        for call in assigning(strict):
            self.refused(strict, UnlikeWidths, call, Table(3, (0, 5, 0), (0, 6, 0)))

    def test_many_rows_and_tables(self):
        chance = random.Random(61)
        counted = {}
        for _ in range(400):
            width = chance.randint(2, 4)
            rules = chance.sample(rules_for(width), chance.randint(0, 3))
            most = chance.randint(0, 6)
            for make in CLASSES:
                log = make(Rules(width, *rules), most) if make in SHORT else make(Rules(width, *rules))
                for _ in range(6):
                    rows = random_rows(width, chance, 0, 7) if chance.random() < 0.3 else None
                    row = random_rows(width, chance, 1, 1)[0]
                    after = list(log.table.rows) + [row] if rows is None else rows
                    error = expected_error(make, rules, most, after)
                    counted[make, error] = counted.get((make, error), 0) + 1
                    call = chance.choice(adding(log) if rows is None else assigning(log))
                    value = row if rows is None else Table(width, *rows)
                    if error is None:
                        call(value)
                        self.assertEqual(log.table.rows, tuple(after))
                    else:
                        self.refused(log, error, call, value)
                    self.assertEqual(log.broken, tuple(x for x in rules if not plainly_holds(log.table.rows, x)))
        self.assertEqual(len(counted), 8)
        self.assertGreater(min(counted.values()), 100)


def expected_error(make, rules, most, rows):
    """The error of point 61 for a table with these rows, or None."""
    if make in SHORT and len(rows) > most:
        return TooMuch
    if make in (Strict, StrictShort):
        if not all(plainly_holds(rows, rule) for rule in rules if rule[0] == "settles"):
            return Broken
    return None


if __name__ == "__main__":
    unittest.main()
