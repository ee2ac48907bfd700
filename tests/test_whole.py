"""What the document promises over the whole program."""

import copy
import random
import unittest

from countcycles.errors import (
    ColumnError, NoColumn, NoNumber, NoRow, NoRows, NoRule, NoRules, NoText, NothingDone, NotRules, NotTable, NoWidth
)
from countcycles.follow import following, groups, least, model, shows_verdict, verdict, walk
from countcycles.logs import Log, Short, StrictShort
from countcycles.rules import Rules
from countcycles.tables import Table
from tests.samples import CLASSES, SHORT, many_lists, many_tables, plainly_following, plainly_holds, rules_for, state


class TogetherTest(unittest.TestCase):

    def test_in_the_model_exactly_the_rules_hold_that_follow(self):
        for width in range(1, 7):
            for rules in many_lists(width):
                made = Rules(width, *rules)
                rows = model(made).rows
                holding = [rule for rule in rules_for(width) if plainly_holds(rows, rule)]
                self.assertEqual(holding, list(following(made)), rules)
                self.assertEqual(holding, sorted(plainly_following(width, rules)), rules)
                self.assertEqual(model(made).obeyed().rules, tuple(holding))

    def test_verdicts_are_shown(self):
        for width in range(2, 7):
            for rules in many_lists(width)[::3]:
                made = Rules(width, *rules)
                for rule in rules_for(width):
                    answer = verdict(made, rule)
                    self.assertEqual(answer[0], "follows" if made(rule) else "fails")
                    self.assertIs(shows_verdict(made, rule, answer), True)
                    back = rule[0], rule[2], rule[1]
                    if answer[0] == "follows":
                        self.assertIs(shows_verdict(made, back, answer), False)

    def test_what_follows_from_rules_that_hold_in_a_table_holds_in_it(self):
        chance = random.Random(3)
        for width in range(1, 7):
            for rows in many_tables(width):
                table = Table(width, *rows)
                holding = table.obeyed().rules
                some = Rules(width, *chance.sample(holding, chance.randint(0, len(holding))))
                for rule in following(some):
                    self.assertIs(table(rule), True)
                self.assertEqual(tuple(following(table.obeyed())), holding)

    def test_least_leads_to_the_same_rules(self):
        for width in range(1, 7):
            for rules in many_lists(width):
                made = Rules(width, *rules)
                left = least(made)
                self.assertEqual(list(following(left)), list(following(made)))
                self.assertTrue(all(rule in made for rule in left.rules))
                for rule in left.rules:
                    others = Rules(width, *[other for other in left.rules if other != rule])
                    self.assertIs(others(rule), False)

    def test_logs_accept_models(self):
        for width in range(1, 7):
            for rules in many_lists(width)[::5]:
                made = Rules(width, *rules)
                table = model(made)
                for make in CLASSES:
                    log = make(made, 400) if make in SHORT else make(made)
                    before = state(log)
                    log.table = table
                    self.assertEqual((log.table, log.broken), (table, ()))
                    log.undo()
                    self.assertEqual(state(log), before)
                    for row in table.rows:
                        log.add(row)
                    self.assertEqual((log.table.rows, log.broken), (table.rows, ()))


class CallsTest(unittest.TestCase):
    """Points 2 and 3."""

    def test_again_an_equal_result(self):
        rules = Rules(3, ("settles", 0, 1), ("within", 0, 1), ("settles", 1, 2))
        table = Table(3, (0, 1, 2), (1, 1, 2))
        answer = verdict(rules, ("settles", 1, 0))
        calls = (
            lambda: rules.text(), lambda: rules(("within", 1, 0)), lambda: rules + rules, lambda: repr(rules),
            lambda: walk(rules, 1, 0), lambda: groups(rules), lambda: list(following(rules)), lambda: model(rules),
            lambda: verdict(rules, ("settles", 2, 1)), lambda: least(rules), lambda: table.counts, lambda: table.text(),
            lambda: table.obeyed(), lambda: table + table, lambda: table * table, lambda: table(("within", 0, 1)),
            lambda: shows_verdict(rules, ("settles", 1, 0), answer), lambda: Table.read(3, table.text()),
            lambda: Rules.read(3, rules.text()), lambda: Log(rules).table,
        )
        first = [call() for call in calls]
        self.assertEqual([call() for call in reversed(calls)], first[::-1])
        self.assertEqual((len(rules), table.rows), (3, ((0, 1, 2), (1, 1, 2))))

    def test_arguments_stay(self):
        rules, table, log = Rules(2, ("settles", 0, 1)), Table(2, (0, 1)), Log(Rules(2))
        wrong = [["settles", 0, 1], {"a": [1, (2, [3])]}, ("follows", [(0, 1, [])]), ([0], 1), [[0, 1]], ["fails", []]]
        before = copy.deepcopy(wrong)
        for thing in wrong:
            shows_verdict(rules, ("settles", 0, 1), thing)
            shows_verdict(rules, ("settles", 1, 0), ("fails", thing))
            shows_verdict(rules, ("settles", 0, 1), ("follows", (thing,)))
            for call in (lambda: verdict(rules, thing), lambda: walk(rules, thing, 0), lambda: model(thing),
                         lambda: table(thing), lambda: table + thing, lambda: table * thing, lambda: log.add(thing),
                         lambda: log.drop(thing), lambda: log.assign_table(thing), lambda: Table.read(2, thing),
                         lambda: Table(2, thing), lambda: Short(rules, thing), lambda: list(following(thing))):
                with self.assertRaises(ColumnError):
                    call()
            self.assertIs(table == thing, False)
        self.assertEqual(wrong, before)
        self.assertEqual((rules.rules, table.rows, len(log), log.changes), ((("settles", 0, 1),), ((0, 1),), 0, 0))

    def test_bools_and_lists_are_never_accepted(self):
        rules, table, log = Rules(2, ("settles", 0, 1)), Table(2, (0, 1)), StrictShort(Rules(2))
        for error, call in (
            (NoWidth, lambda: Table(True)), (NoWidth, lambda: Rules(True)), (NoWidth, lambda: Table.read(True, "")),
            (NoRows, lambda: Table(2, (0, True))), (NoRows, lambda: Table(2, [0, 1])),
            (NoRules, lambda: Rules(2, ("settles", False, 1))), (NoRules, lambda: Rules(2, ["settles", 0, 1])),
            (NoRule, lambda: rules(("settles", 0, True))), (NoRule, lambda: rules(["settles", 0, 1])),
            (NoRule, lambda: table(("settles", 0, True))), (NoRule, lambda: table(["settles", 0, 1])),
            (NoRule, lambda: verdict(rules, ("settles", False, 1))),
            (NoRule, lambda: shows_verdict(rules, ("settles", False, 1), None)),
            (NoColumn, lambda: walk(rules, True, 0)), (NoColumn, lambda: walk(rules, 0, False)),
            (NoRow, lambda: log.add((0, True))), (NoRow, lambda: log([0, 1])), (NoRow, lambda: log.drop((False, 1))),
            (NoNumber, lambda: Short(rules, True)), (NoNumber, lambda: StrictShort(rules, False)),
            (NotRules, lambda: Log([("settles", 0, 1)])), (NotTable, lambda: log.assign_table([(0, 1)])),
            (NoText, lambda: Table.read(2, ["0 1\n"])), (NoText, lambda: Rules.read(2, [])),
            (NothingDone, log.undo),
        ):
            with self.assertRaises(error) as caught:
                call()
            self.assertEqual(type(caught.exception).__bases__, (ColumnError,))
            self.assertIsInstance(caught.exception, ValueError)
            self.assertTrue(str(caught.exception))
        self.assertEqual((len(log), log.changes), (0, 0))
        self.assertIs(("settles", False, True) in rules, False)

    def test_lists_of_rules_beside_tables_and_logs(self):
        rules = Rules(2, ("settles", 0, 1))
        for other in (Table(2), Table(2, (0, 1)), model(rules), Log(rules), StrictShort(rules), Log(rules).trying()):
            self.assertIs(rules == other, False)
            self.assertIs(other == rules, False)
            self.assertIs(other in rules, False)
        self.assertIs(Log(rules).rules == rules, True)

    def test_returned_values_passed_back(self):
        rules = Rules(3, ("settles", 0, 1), ("settles", 1, 2), ("within", 0, 2))
        self.assertEqual(Rules(3, *following(rules)), Table(3, *model(rules).rows).obeyed())
        self.assertEqual(Rules(3, *model(rules).obeyed().rules), rules + Rules(3, *following(rules)))
        big = Table(3, *[(number, number, number) for number in range(400)])
        self.assertEqual(Table.read(3, big.text()).rows, big.rows)
        log = Log(rules)
        log.table = big
        self.assertEqual(log.table.rows, big.rows)


if __name__ == "__main__":
    unittest.main()
