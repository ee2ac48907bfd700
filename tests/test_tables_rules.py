import unittest

from countcycles.errors import NoRule
from countcycles.rules import Rules
from countcycles.tables import Table
from tests.samples import any_values, many_tables, near_rules, plainly_holds, rules_for


class HoldsTest(unittest.TestCase):

    def test_settles(self):
        table = Table(2, (0, 3), (1, 3), (2, 4), (0, 3))
        self.assertIs(table(("settles", 0, 1)), True)
        self.assertIs(table(("settles", 1, 0)), False)
        self.assertFalse(Table(2, (0, 3), (1, 3), (0, 4))(("settles", 0, 1)))

    def test_within(self):
        table = Table(2, (0, 1), (1, 0), (0, 2))
        self.assertIs(table(("within", 0, 1)), True)
        self.assertIs(table(("within", 1, 0)), False)
        self.assertTrue(Table(2, (0, 1), (1, 0))(("within", 1, 0)))

    def test_one_row(self):
        self.assertEqual(Table(2, (4, 5)).obeyed().rules, (("settles", 0, 1), ("settles", 1, 0)))
        self.assertEqual(Table(2, (4, 4)).obeyed().rules, tuple(rules_for(2)))

    def test_without_rows_every_rule_holds(self):
        for width in range(1, 7):
            for rule in rules_for(width):
                self.assertIs(Table(width)(rule), True)
            self.assertEqual(Table(width).obeyed().rules, tuple(rules_for(width)))

    def test_many_tables(self):
        for width in range(1, 7):
            for rows in many_tables(width):
                table = Table(width, *rows)
                expected = [rule for rule in rules_for(width) if plainly_holds(rows, rule)]
                for rule in rules_for(width):
                    self.assertIs(table(rule), rule in expected)
                obeyed = table.obeyed()
                self.assertIs(type(obeyed), Rules)
                self.assertEqual((obeyed.width, obeyed.rules), (width, tuple(expected)))
                self.assertEqual(table.rows, tuple(rows))
                self.assertEqual(table.obeyed(), obeyed)

    def test_what_follows_from_rules_that_hold_holds(self):
        for width in range(1, 7):
            for rows in many_tables(width):
                obeyed = Table(width, *rows).obeyed()
                for rule in rules_for(width):
                    self.assertIs(obeyed(rule), rule in obeyed)


class NoRuleTest(unittest.TestCase):

    def test_nearly_a_rule(self):
        for width in range(2, 7):
            for rule in rules_for(width):
                for wrong in near_rules(width, rule):
                    for table in (Table(width), Table(width, (1,) * width)):
                        with self.subTest(width=width, wrong=wrong), self.assertRaises(NoRule) as caught:
                            table(wrong)
                        self.assertTrue(str(caught.exception))

    def test_any_value(self):
        for thing in any_values() + [Rules(2), Rules(2, ("settles", 0, 1))]:
            with self.assertRaises(NoRule):
                Table(6, (0, 1, 2, 3, 4, 5))(thing)

    def test_a_rule_for_another_width(self):
        for width in range(1, 6):
            for rule in (("settles", 0, 5), ("within", 5, 0), ("within", width, 0)):
                with self.assertRaises(NoRule):
                    Table(width)(rule)
        for rule in (("settles", 0, 0), ("within", 0, 0), ("settles", 0, 1)):
            with self.assertRaises(NoRule):
                Table(1)(rule)


if __name__ == "__main__":
    unittest.main()
