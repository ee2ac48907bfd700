import copy
import itertools
import random
import unittest

from countcycles.errors import NoRules, NoWidth
from countcycles.rules import Rules
from tests.samples import NO_WIDTHS, any_values, near_rules, rules_for


def right_calls():
    """Widths with none to four rules."""
    chance = random.Random(21)
    for width in range(1, 7):
        every = rules_for(width)
        for size in range(min(len(every), 4) + 1):
            for _ in range(15):
                yield width, tuple(chance.sample(every, size))


class CreationTest(unittest.TestCase):

    def test_right_calls_tell_their_values(self):
        for width, rules in right_calls():
            with self.subTest(width=width, rules=rules):
                made = Rules(width, *rules)
                self.assertEqual(made.width, width)
                self.assertIs(type(made.width), int)
                self.assertEqual(made.rules, rules)
                self.assertIs(type(made.rules), tuple)
                self.assertEqual(len(made), len(rules))
                self.assertEqual(repr(made), f"Rules({width} columns, {len(rules)} rules)")

    def test_all_rules_of_six_columns(self):
        every = rules_for(6)
        self.assertEqual(len(Rules(6, *every)), 60)
        self.assertEqual(Rules(6, *every[::-1]).rules, tuple(every[::-1]))

    def test_repr_uses_the_same_words_for_all_numbers(self):
        self.assertEqual(repr(Rules(1)), "Rules(1 columns, 0 rules)")
        self.assertEqual(repr(Rules(2, ("within", 1, 0))), "Rules(2 columns, 1 rules)")
        self.assertEqual(repr(Rules(3, ("within", 1, 0), ("settles", 2, 0))), "Rules(3 columns, 2 rules)")

    def test_width_by_name(self):
        self.assertEqual(Rules(width=3).width, 3)

    def test_one_column_has_no_rules(self):
        for rule in (("settles", 0, 0), ("within", 0, 0), ("settles", 0, 1), ("within", 1, 0)):
            with self.assertRaises(NoRules):
                Rules(1, rule)

    def test_one_value_changed(self):
        for width, rules in right_calls():
            for place, rule in enumerate(rules):
                for wrong in near_rules(width, rule):
                    with self.subTest(width=width, wrong=wrong), self.assertRaises(NoRules) as caught:
                        Rules(width, *rules[:place], wrong, *rules[place + 1:])
                    self.assertTrue(str(caught.exception))

    def test_any_value_as_rule(self):
        for wrong in any_values():
            for rules in ((wrong,), (("settles", 0, 1), wrong), (wrong, wrong)):
                with self.assertRaises(NoRules):
                    Rules(3, *rules)

    def test_a_rule_twice(self):
        for width, rules in right_calls():
            for rule in rules:
                with self.assertRaises(NoRules):
                    Rules(width, *rules, rule)
                with self.assertRaises(NoRules):
                    Rules(width, rule, *rules)

    def test_a_rule_many_times(self):
        with self.assertRaises(NoRules):
            Rules(2, *[("settles", 0, 1)] * 8000)

    def test_a_rule_for_a_smaller_width_only(self):
        self.assertEqual(len(Rules(6, ("settles", 5, 0))), 1)
        for width in range(1, 6):
            with self.assertRaises(NoRules):
                Rules(width, ("settles", 5, 0))

    def test_no_width(self):
        for width in NO_WIDTHS + tuple(any_values()):
            with self.subTest(width=width), self.assertRaises(NoWidth) as caught:
                Rules(width)
            self.assertTrue(str(caught.exception))

    def test_no_width_ahead_of_wrong_rules(self):
        for width in NO_WIDTHS:
            for rules in ((("settles", 0, 1),), (None,), (("settles", 0, 0),), (("within", 0, 1),) * 2):
                with self.subTest(width=width, rules=rules), self.assertRaises(NoWidth):
                    Rules(width, *rules)

    def test_arguments_stay(self):
        wrong = [["settles", 0, 1], {"settles": [0, 1]}, ("settles", [0], 1)]
        before = copy.deepcopy(wrong)
        for value in wrong:
            with self.assertRaises(NoRules):
                Rules(2, value)
        self.assertEqual(wrong, before)

    def test_values_cannot_be_assigned(self):
        rules = Rules(2, ("settles", 0, 1))
        with self.assertRaises(AttributeError):
            rules.width = 3
        with self.assertRaises(AttributeError):
            rules.rules = ()
        self.assertEqual((rules.width, rules.rules), (2, (("settles", 0, 1),)))

    def test_a_list_passed_with_a_star_may_change_later(self):
        given = [("settles", 0, 1)]
        rules = Rules(2, *given)
        given.append(("within", 0, 1))
        self.assertEqual(rules.rules, (("settles", 0, 1),))


class EqualTest(unittest.TestCase):

    def test_equal_in_any_order(self):
        for width, rules in right_calls():
            for other in itertools.permutations(rules):
                self.assertTrue(Rules(width, *rules) == Rules(width, *other))
                self.assertFalse(Rules(width, *rules) != Rules(width, *other))

    def test_unlike_rules(self):
        calls = list(right_calls())
        for (width, rules), (other_width, others) in itertools.product(calls[::7], calls):
            same = width == other_width and set(rules) == set(others)
            self.assertIs(Rules(width, *rules) == Rules(other_width, *others), same)
            self.assertIs(Rules(width, *rules) != Rules(other_width, *others), not same)

    def test_one_rule_more(self):
        for width, rules in right_calls():
            if rules:
                self.assertFalse(Rules(width, *rules) == Rules(width, *rules[1:]))
                self.assertFalse(Rules(width, *rules[1:]) == Rules(width, *rules))

    def test_same_rules_but_another_width(self):
        self.assertFalse(Rules(2, ("settles", 0, 1)) == Rules(3, ("settles", 0, 1)))
        self.assertFalse(Rules(1) == Rules(2))

    def test_rules_that_follow_do_not_count(self):
        chain = (("settles", 0, 1), ("settles", 1, 2))
        self.assertFalse(Rules(3, *chain) == Rules(3, *chain, ("settles", 0, 2)))

    def test_equal_to_nothing_else(self):
        rules = Rules(2, ("settles", 0, 1))
        others = [rules.rules, list(rules.rules), rules.text(), repr(rules), 2, 1, (2, rules.rules), (rules,), [rules]]
        for other in others + any_values():
            self.assertIs(rules == other, False)
            self.assertIs(other == rules, False)
            self.assertIs(rules != other, True)
        self.assertFalse(Rules(1) == ())
        self.assertFalse(Rules(1) == "")


class ContainsTest(unittest.TestCase):

    def test_each_rule_of_the_width(self):
        for width, rules in right_calls():
            made = Rules(width, *rules)
            for rule in rules_for(width):
                self.assertIs(rule in made, rule in rules)

    def test_rules_that_only_follow_are_not_in_it(self):
        both = Rules(2, ("settles", 0, 1), ("within", 0, 1))
        self.assertTrue(both(("settles", 1, 0)))
        self.assertFalse(("settles", 1, 0) in both)

    def test_nearly_the_rule(self):
        for width, rules in right_calls():
            made = Rules(width, *rules)
            for rule in rules:
                for wrong in near_rules(width, rule):
                    self.assertIs(wrong in made, False)

    def test_any_value(self):
        full = Rules(6, *rules_for(6))
        for thing in any_values() + [full, full.rules, full.text(), Rules(6)]:
            self.assertIs(thing in full, False)
            self.assertIs(thing in Rules(1), False)

    def test_any_value_stays(self):
        thing = ["settles", [0], {1: ("settles", 0, 1)}]
        before = copy.deepcopy(thing)
        self.assertFalse(thing in Rules(2, ("settles", 0, 1)))
        self.assertEqual(thing, before)


if __name__ == "__main__":
    unittest.main()
