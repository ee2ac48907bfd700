import itertools
import random
import unittest

from countcycles.errors import NoRule, NotRules
from countcycles.follow import model, shows_verdict, verdict
from countcycles.rules import Rules
from countcycles.tables import Table
from tests.plain import is_plain_chain, plain_chain
from tests.samples import (
    all_lists, any_values, many_lists, many_tables, near_rules, plainly_following, plainly_holds, rules_for
)


class VerdictTest(unittest.TestCase):

    def check(self, width, rules, wanted):
        made = Rules(width, *rules)
        for rule in wanted:
            answer = verdict(made, rule)
            chain = plain_chain(width, rules, rule)
            self.assertIs(type(answer), tuple)
            if chain is None:
                self.assertEqual((len(answer), answer[0]), (2, "fails"))
                self.assertIs(type(answer[1]), Table)
                self.assertEqual((answer[1].width, answer[1].rows), (width, model(made).rows))
            else:
                self.assertEqual(answer, ("follows", chain), (rules, rule))
            self.assertIs(shows_verdict(made, rule, answer), True)
        self.assertEqual(made.rules, tuple(rules))

    def test_a_given_rule(self):
        rules = Rules(3, ("settles", 0, 1), ("within", 0, 1))
        self.assertEqual(verdict(rules, ("settles", 0, 1)), ("follows", ((0, 1, ()),)))
        self.assertEqual(verdict(rules, ("within", 0, 1)), ("follows", ((0, 1, ()),)))

    def test_rings_of_both_kinds(self):
        rules = Rules(3, ("settles", 0, 1), ("settles", 1, 2), ("within", 0, 2))
        self.assertEqual(verdict(rules, ("settles", 1, 0)), ("follows", ((1, 0, (1, 2, 0)),)))
        self.assertEqual(verdict(rules, ("within", 2, 0)), ("follows", ((2, 0, (0, 1, 2)),)))
        self.assertEqual(verdict(rules, ("settles", 2, 0)), ("follows", ((2, 1, (2, 0, 1)), (1, 0, (1, 2, 0)))))

    def test_no_ring_where_the_rule_is_given_in_both_directions(self):
        rules = Rules(2, ("settles", 0, 1), ("settles", 1, 0))
        self.assertEqual(verdict(rules, ("settles", 1, 0)), ("follows", ((1, 0, ()),)))

    def test_the_first_chain_of_several(self):
        rules = Rules(4, ("settles", 0, 2), ("settles", 2, 3), ("settles", 0, 1), ("settles", 1, 3))
        self.assertEqual(verdict(rules, ("settles", 0, 3)), ("follows", ((0, 1, ()), (1, 3, ()))))

    def test_a_short_chain_with_a_ring_ahead_of_a_long_one_without(self):
        rules = Rules(3, ("settles", 2, 0), ("settles", 0, 1), ("settles", 1, 2))
        self.assertEqual(verdict(rules, ("settles", 0, 2)), ("follows", ((0, 2, (0, 1, 2)),)))

    def test_all_lists_of_two_columns(self):
        for rules in all_lists(2):
            self.check(2, rules, rules_for(2))

    def test_some_lists_of_three_columns(self):
        for rules in all_lists(3)[::7]:
            self.check(3, rules, rules_for(3))

    def test_many_lists(self):
        for width in range(1, 7):
            for rules in many_lists(width):
                self.check(width, rules, rules_for(width)[len(rules) % 4::4])

    def test_by_names(self):
        rules, rule = Rules(2, ("settles", 0, 1)), ("settles", 0, 1)
        answer = verdict(rules=rules, rule=rule)
        self.assertIs(shows_verdict(rules=rules, rule=rule, thing=answer), True)

    def test_again_the_same(self):
        rules = Rules(3, ("settles", 0, 1))
        for rule in rules_for(3):
            self.assertEqual(verdict(rules, rule), verdict(rules, rule))


class ChainTest(unittest.TestCase):
    """Which chains shows_verdict accepts."""

    def setUp(self):
        self.rules = Rules(4, ("settles", 0, 1), ("settles", 1, 2), ("within", 0, 2), ("settles", 2, 3))

    def shows(self, rule, chain):
        return shows_verdict(self.rules, rule, ("follows", chain))

    def test_longer_than_needed(self):
        there_and_back = ((0, 1, ()), (1, 0, (1, 2, 0)))
        for many in (0, 1, 2, 500):
            self.assertIs(self.shows(("settles", 0, 1), there_and_back * many + ((0, 1, ()),)), True)
            self.assertIs(self.shows(("settles", 0, 2), there_and_back * many + ((0, 1, ()), (1, 2, ()))), True)
            self.assertIs(self.shows(("settles", 0, 1), there_and_back * many), False)

    def test_any_walk_as_ring(self):
        for ring in ((1, 2, 0), (1, 2, 0, 1, 2, 0), (1, 2, 0) * 300):
            self.assertIs(self.shows(("settles", 1, 0), ((1, 0, ring),)), True)
        for ring in ((), (1,), (0,), (1, 0), (1, 2), (2, 0), (0, 1), (0, 1, 2), (1, 2, 3, 0), (1, 2, 0, 1),
                     (1, 1, 2, 0), (1, 2, 0, 0), (1, 2, 2, 0), (0, 2, 1), [1, 2, 0], (1, 2, False), (True, 2, 0), ((1, 2), 0), None,
                     "120", (1, 2, 4, 0), (1, 2, -1, 0), (1, None, 0), (1, [2], 0), Table(4), self.rules, 0):
            self.assertIs(self.shows(("settles", 1, 0), ((1, 0, ring),)), False)

    def test_a_walk_from_the_second_column_for_within(self):
        self.assertIs(self.shows(("within", 2, 0), ((2, 0, (0, 1, 2)),)), True)
        self.assertIs(self.shows(("within", 2, 0), ((2, 0, (2, 0)),)), False)
        self.assertIs(self.shows(("within", 0, 2), ((0, 2, ()),)), True)
        self.assertIs(self.shows(("within", 0, 2), ((0, 2, (2, 0)),)), False)

    def test_a_ring_beside_a_given_rule(self):
        # A ring stands only beside a rule that is given the other way round.
        self.assertIs(self.shows(("settles", 0, 1), ((0, 1, (1, 2, 0)),)), False)
        self.assertIs(self.shows(("settles", 0, 1), ((0, 1, (0, 1)),)), False)
        both = Rules(2, ("settles", 0, 1), ("settles", 1, 0))
        for ring in ((), (0, 1), (0, 1, 0, 1)):
            self.assertIs(shows_verdict(both, ("settles", 0, 1), ("follows", ((0, 1, ring),))), True)
        for ring in ((1, 0), (0,), (0, 1, 0)):
            self.assertIs(shows_verdict(both, ("settles", 0, 1), ("follows", ((0, 1, ring),))), False)

    def test_no_chain(self):
        right = ((0, 1, ()), (1, 2, ()))
        self.assertIs(self.shows(("settles", 0, 2), right), True)
        for wrong in ((), right[:1], right[1:], right[::-1], right + right, list(right), (right,), ((0, 2, ()),),
                      ([0, 1, ()], (1, 2, ())), ((0, 1), (1, 2)), ((0, 1, (), ()), (1, 2, ())), ((0, 1, ()), None),
                      ((0, 1, []), (1, 2, ())), ((False, 1, ()), (1, 2, ())), ((0, True, ()), (1, 2, ())),
                      ((0, 1, ()), (True, 2, ())), ((0, 1, ()), (1, 3, ())), ((0, 1, ()), (2, 2, ())),
                      ((0, 1, None), (1, 2, ())), ((0, "1", ()), (1, 2, ())), ((0, 1, ()), (1, 2, ()), ()),
                      ((0, 1, ()), (1, 2, ()), (2, 3, ())), None, "", 0, {}, Table(4), self.rules, (self.rules,)):
            self.assertIs(self.shows(("settles", 0, 2), wrong), False)

    def test_the_other_kind(self):
        self.assertIs(self.shows(("within", 0, 1), ((0, 1, ()),)), False)
        self.assertIs(self.shows(("settles", 0, 2), ((0, 2, ()),)), False)

    def test_all_short_chains(self):
        columns = range(2)
        walks = [way for many in range(4) for way in itertools.product(columns, repeat=many)]
        parts = [(a, b, ring) for a in columns for b in columns for ring in walks]
        for rules in all_lists(2):
            made = Rules(2, *rules)
            for rule in rules_for(2):
                for many in (0, 1):
                    for chain in itertools.product(parts, repeat=many):
                        expected = is_plain_chain(rules, rule, chain)
                        self.assertIs(shows_verdict(made, rule, ("follows", chain)), expected)

    def test_chains_with_a_part_changed(self):
        chance = random.Random(40)
        counted = {True: 0, False: 0}
        for width in range(2, 7):
            for rules in many_lists(width)[::2]:
                made = Rules(width, *rules)
                follow = sorted(plainly_following(width, rules))
                for rule in chance.sample(follow, min(len(follow), 3)):
                    for chain in changed_chains(width, verdict(made, rule)[1], chance):
                        expected = is_plain_chain(rules, rule, chain)
                        counted[expected] += 1
                        self.assertIs(shows_verdict(made, rule, ("follows", chain)), expected, (rules, rule, chain))
        self.assertGreater(min(counted.values()), 300)


def changed_chains(width, chain, chance):
    """Chains of the right form with parts changed, omitted, repeated or added."""
    at = chance.randrange(len(chain))
    a, b, ring = chain[at]
    column = chance.randrange(width)
    place = chance.randrange(len(ring) + 1)
    rings = [ring + ring, ring + ring[1:], ring[1:], ring[:-1], ring[::-1], (a, b), (b, a), (),
             ring[:place] + (column,) + ring[place:], ring[:place] + (column,) + ring[place + 1:]]
    parts = [(a, b, other) for other in rings] + [(b, a, ring), (a, column, ring), (column, b, ring), (a, a, ring)]
    changed = [chain[:at] + (part,) + chain[at + 1:] for part in parts]
    changed += [chain[:at] + chain[at + 1:], chain[:at] + (chain[at],) + chain[at:], chain + chain, chain[::-1], chain]
    for back in (ring, (), (b, a), (a, b), ring[::-1]):
        changed.append(chain[:at + 1] + ((b, a, back),) + chain[at:])
    return changed


class TableTest(unittest.TestCase):
    """Which tables shows_verdict accepts."""

    def test_some(self):
        rules, rule = Rules(2, ("settles", 0, 1)), ("settles", 1, 0)
        self.assertIs(shows_verdict(rules, rule, ("fails", Table(2, (7, 7), (8, 7)))), True)
        self.assertIs(shows_verdict(rules, rule, ("fails", Table(2, (7, 7), (8, 7), (8, 7)))), True)
        # The rule holds.
        self.assertIs(shows_verdict(rules, rule, ("fails", Table(2, (7, 7)))), False)
        self.assertIs(shows_verdict(rules, rule, ("fails", Table(2))), False)
        # A given rule does not hold.
        self.assertIs(shows_verdict(rules, rule, ("fails", Table(2, (7, 7), (8, 7), (8, 8)))), False)

    def test_another_width(self):
        rules, rule = Rules(2, ("settles", 0, 1)), ("settles", 1, 0)
        for rows in (((7, 7, 7), (8, 7, 7)), ()):
            self.assertIs(shows_verdict(rules, rule, ("fails", Table(3, *rows))), False)
        self.assertIs(shows_verdict(rules, rule, ("fails", Table(1, (0,), (1,)))), False)

    def test_many_tables(self):
        counted = {True: 0, False: 0}
        for width in range(2, 7):
            chance = random.Random(41 + width)
            tables = [rows for rows in many_tables(width) if rows]
            for _ in range(150):
                rows = chance.choice(tables)
                obeyed = [rule for rule in rules_for(width) if plainly_holds(rows, rule)]
                rules = chance.sample(obeyed, min(len(obeyed), 3))
                if chance.random() < 0.3:
                    rules = sorted({*rules, chance.choice(rules_for(width))})
                for rule in chance.sample(rules_for(width), 2):
                    expected = all(plainly_holds(rows, given) for given in rules) and not plainly_holds(rows, rule)
                    counted[expected] += 1
                    thing = ("fails", Table(width, *rows))
                    self.assertIs(shows_verdict(Rules(width, *rules), rule, thing), expected)
        self.assertGreater(min(counted.values()), 100)

    def test_never_both(self):
        # What follows from rules that hold in a table holds in it, so no table shows that it fails.
        for width in range(2, 7):
            for rules in many_lists(width)[::5]:
                made = Rules(width, *rules)
                table = model(made)
                for rule in rules_for(width):
                    self.assertIs(shows_verdict(made, rule, ("fails", table)), not made(rule))


class AnyValueTest(unittest.TestCase):

    def setUp(self):
        self.rules = Rules(2, ("settles", 0, 1))
        self.cases = [(("settles", 0, 1), ((0, 1, ()),), "follows"),
                      (("settles", 1, 0), Table(2, (7, 7), (8, 7)), "fails")]

    def test_near_the_right_value(self):
        for rule, shown, word in self.cases:
            self.assertIs(shows_verdict(self.rules, rule, (word, shown)), True)
            other = "fails" if word == "follows" else "follows"
            for thing in ([word, shown], (word,), (shown,), (shown, word), (word, shown, shown), (word, shown, None),
                          (other, shown), (word.upper(), shown), (word + " ", shown), ("", shown), (None, shown),
                          (True, shown), (0, shown), ((word,), shown), ([word], shown), (word, [shown]),
                          (word, (shown,)), (word, None), (word, ()), (word, True), (self.rules, shown), (shown, shown), {word: shown},
                          word, shown, None, True, (), ((word, shown),), (word, self.rules), (word, "")):
                self.assertIs(shows_verdict(self.rules, rule, thing), False, thing)

    def test_any_value(self):
        for rule, shown, word in self.cases:
            for thing in any_values() + [self.rules]:
                for value in (thing, (word, thing), (thing, shown), (word, (thing,)), (word, ((0, 1, [thing]),))):
                    self.assertIs(shows_verdict(self.rules, rule, value), False)
                if thing != ():
                    self.assertIs(shows_verdict(self.rules, rule, (word, ((0, 1, thing),))), False)

    def test_rows_instead_of_a_table(self):
        table = self.cases[1][1]
        for thing in (table.rows, table.text(), list(table.rows), (2, table.rows)):
            self.assertIs(shows_verdict(self.rules, ("settles", 1, 0), ("fails", thing)), False)

    def test_many_parts(self):
        rules = Rules(2, ("settles", 0, 1), ("settles", 1, 0))
        chain = ((0, 1, ()), (1, 0, ())) * 1300
        self.assertIs(shows_verdict(rules, ("settles", 0, 1), ("follows", chain + ((0, 1, ()),))), True)
        self.assertIs(shows_verdict(rules, ("settles", 0, 1), ("follows", chain)), False)
        self.assertIs(shows_verdict(rules, ("settles", 0, 1), ("follows", ((0, 1, (0, 1) * 3900),))), True)


class WrongTest(unittest.TestCase):

    def calls(self, rules, rule):
        return (lambda: verdict(rules, rule), lambda: shows_verdict(rules, rule, None),
                lambda: shows_verdict(rules, rule, ("follows", ((0, 1, ()),))))

    def test_not_rules(self):
        right = Rules(2, ("settles", 0, 1))
        for wrong in any_values() + [right.rules, right.text(), [right], (right,), Table(2)]:
            for rule in (("settles", 0, 1), ("settles", 0, 0), None):
                for call in self.calls(wrong, rule):
                    with self.assertRaises(NotRules) as caught:
                        call()
                    self.assertTrue(str(caught.exception))

    def test_no_rule(self):
        for width in (2, 3, 6):
            rules = Rules(width, ("settles", 0, 1))
            wrong = near_rules(width, ("settles", 0, 1)) + near_rules(width, ("within", 1, 0)) + any_values() + [rules]
            for rule in wrong:
                for call in self.calls(rules, rule):
                    with self.assertRaises(NoRule) as caught:
                        call()
                    self.assertTrue(str(caught.exception))

    def test_one_column_has_no_rules(self):
        for call in self.calls(Rules(1), ("settles", 0, 1)):
            with self.assertRaises(NoRule):
                call()


if __name__ == "__main__":
    unittest.main()
