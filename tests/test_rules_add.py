import random
import unittest

from countcycles.errors import NotRules, UnlikeWidths
from countcycles.rules import Rules
from tests.samples import any_values, rules_for


class AddTest(unittest.TestCase):

    def check(self, width, ones, others):
        one = Rules(width, *ones)
        other = Rules(width, *others)
        both = one + other
        self.assertIs(type(both), Rules)
        self.assertEqual(both.width, width)
        self.assertEqual(both.rules, tuple(ones) + tuple(rule for rule in others if rule not in ones))
        self.assertEqual((one.width, one.rules), (width, tuple(ones)))
        self.assertEqual((other.width, other.rules), (width, tuple(others)))

    def test_some_in_common(self):
        self.check(3, [("settles", 0, 1), ("within", 0, 1)], [("within", 2, 1), ("within", 0, 1), ("settles", 2, 0)])

    def test_all_and_none_in_common(self):
        some = [("settles", 1, 0), ("within", 0, 1)]
        self.check(2, some, some)
        self.check(2, some, some[::-1])
        self.check(2, some, [("settles", 0, 1), ("within", 1, 0)])

    def test_without_rules(self):
        for width in range(1, 7):
            some = rules_for(width)[::3]
            self.check(width, [], [])
            self.check(width, some, [])
            self.check(width, [], some)

    def test_rules_that_follow_are_added(self):
        self.check(3, [("settles", 0, 1), ("settles", 1, 2)], [("settles", 0, 2)])

    def test_many(self):
        chance = random.Random(23)
        for width in range(2, 7):
            every = rules_for(width)
            for _ in range(80):
                ones = chance.sample(every, chance.randint(0, len(every)))
                others = chance.sample(every, chance.randint(0, len(every)))
                self.check(width, ones, others)

    def test_with_itself(self):
        rules = Rules(2, ("settles", 0, 1))
        self.assertEqual((rules + rules).rules, rules.rules)

    def test_in_place_makes_a_new_list(self):
        one = first = Rules(2, ("settles", 0, 1))
        one += Rules(2, ("within", 0, 1))
        self.assertEqual(len(one), 2)
        self.assertEqual(len(first), 1)

    def test_unlike_widths(self):
        for width in range(1, 7):
            for other_width in range(1, 7):
                if width != other_width:
                    with self.assertRaises(UnlikeWidths) as caught:
                        Rules(width) + Rules(other_width)
                    self.assertTrue(str(caught.exception))
        with self.assertRaises(UnlikeWidths):
            Rules(2, ("settles", 0, 1)) + Rules(3, ("settles", 0, 1))

    def test_not_rules(self):
        rules = Rules(2, ("settles", 0, 1))
        others = [rules.rules, rules.text(), [rules], (rules,), ("settles", 0, 1), [("settles", 1, 0)]]
        for other in others + any_values():
            with self.assertRaises(NotRules) as caught:
                rules + other
            self.assertTrue(str(caught.exception))
        self.assertEqual((rules.width, rules.rules), (2, (("settles", 0, 1),)))


if __name__ == "__main__":
    unittest.main()
