import itertools
import random
import unittest

from countcycles.errors import NoRule
from countcycles.rules import Rules
from tests.samples import all_lists, any_values, many_lists, near_rules, plainly_following, plainly_holds, rules_for


class FollowTest(unittest.TestCase):

    def check(self, width, rules):
        made = Rules(width, *rules)
        expected = plainly_following(width, rules)
        for rule in rules_for(width):
            answer = made(rule)
            if answer is not (rule in expected):
                self.fail(f"{rule} from {rules} of {width} columns: {answer}")
        self.assertEqual((made.width, made.rules), (width, tuple(rules)))

    def test_session_of_the_overview(self):
        both = Rules(2, ("settles", 0, 1), ("within", 0, 1))
        self.assertIs(both(("settles", 1, 0)), True)
        self.assertIs(both(("within", 1, 0)), True)
        self.assertIs(Rules(2, ("settles", 0, 1))(("settles", 1, 0)), False)

    def test_chains_are_of_one_kind(self):
        mixed = Rules(3, ("settles", 0, 1), ("within", 1, 2))
        self.assertFalse(mixed(("settles", 0, 2)))
        self.assertFalse(mixed(("within", 0, 2)))
        self.assertTrue(Rules(3, ("within", 0, 1), ("within", 1, 2))(("within", 0, 2)))
        self.assertTrue(Rules(3, ("settles", 0, 1), ("settles", 1, 2))(("settles", 0, 2)))

    def test_directions_of_the_steps(self):
        # Both rules say that 0 has at least as many values as 1, so there is no ring.
        same = Rules(2, ("settles", 0, 1), ("within", 1, 0))
        self.assertFalse(same(("settles", 1, 0)))
        self.assertFalse(same(("within", 0, 1)))
        ring = Rules(3, ("settles", 0, 1), ("settles", 1, 2), ("within", 0, 2))
        for rule in (("settles", 1, 0), ("settles", 2, 1), ("settles", 2, 0), ("within", 2, 0)):
            self.assertTrue(ring(rule))
        self.assertFalse(ring(("within", 0, 1)))

    def test_ring_with_one_rule_turned_about(self):
        broken = Rules(3, ("settles", 0, 1), ("settles", 1, 2), ("within", 2, 0))
        for rule in (("settles", 1, 0), ("settles", 2, 1), ("settles", 2, 0), ("within", 0, 2)):
            self.assertFalse(broken(rule))

    def test_a_chain_through_a_turned_rule(self):
        rules = Rules(4, ("settles", 0, 1), ("within", 0, 1), ("settles", 2, 1), ("settles", 0, 3))
        self.assertTrue(rules(("settles", 2, 3)))
        self.assertFalse(rules(("settles", 3, 2)))
        self.assertFalse(rules(("settles", 1, 2)))

    def test_all_lists_of_few_columns(self):
        for width in (1, 2, 3):
            for rules in all_lists(width):
                self.check(width, rules)

    def test_many_lists(self):
        for width in range(1, 7):
            for rules in many_lists(width):
                self.check(width, rules)
                self.check(width, rules[::-1])

    def test_what_holds_in_a_table_is_closed(self):
        # All that follows from rules that hold in a finite table holds in it, too.
        chance = random.Random(31)
        samples = {3: list(itertools.combinations(itertools.product(range(3), repeat=3), 3))}
        for width in (4, 5, 6):
            samples[width] = [[[chance.randrange(3) for _ in range(width)] for _ in range(4)] for _ in range(400)]
        for width, tables in samples.items():
            holding = {tuple(rule for rule in rules_for(width) if plainly_holds(rows, rule)) for rows in tables}
            for rules in sorted(holding):
                made = Rules(width, *rules)
                self.assertEqual(tuple(rule for rule in rules_for(width) if made(rule)), rules)

    def test_again_the_same(self):
        rules = Rules(3, ("settles", 0, 1), ("within", 0, 1))
        self.assertEqual([rules(("settles", 1, 0)) for _ in range(3)], [True] * 3)
        self.assertEqual([rules(("settles", 1, 2)) for _ in range(3)], [False] * 3)


class NoRuleTest(unittest.TestCase):

    def test_nearly_a_rule(self):
        for width in range(2, 7):
            full = Rules(width, *rules_for(width))
            for rule in rules_for(width):
                for wrong in near_rules(width, rule):
                    for rules in (full, Rules(width)):
                        with self.subTest(width=width, wrong=wrong), self.assertRaises(NoRule) as caught:
                            rules(wrong)
                        self.assertTrue(str(caught.exception))

    def test_any_value(self):
        full = Rules(6, *rules_for(6))
        for thing in any_values() + [full, full.rules, Rules(6)]:
            with self.assertRaises(NoRule):
                full(thing)

    def test_a_rule_for_another_width(self):
        for width in range(1, 6):
            for rule in (("settles", 0, 5), ("within", 5, 0), ("within", width, 0)):
                with self.assertRaises(NoRule):
                    Rules(width)(rule)

    def test_one_column_has_no_rules(self):
        for rule in (("settles", 0, 0), ("within", 0, 0), ("settles", 0, 1)):
            with self.assertRaises(NoRule):
                Rules(1)(rule)


if __name__ == "__main__":
    unittest.main()
