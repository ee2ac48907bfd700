import random
import unittest

from countcycles.errors import NotRules
from countcycles.follow import following, groups, least, model
from countcycles.rules import Rules
from countcycles.tables import Table
from tests.plain import PlainModel, plain_least, plain_model
from tests.samples import all_lists, any_values, many_lists, plainly_following, rules_for

GREATEST = (2, 3, 6, 12, 24, 48)


def ranked_lists(chance):
    """Lists of six columns without rings, with a step down to greater columns only: they make large tables."""
    for _ in range(250):
        pairs = [sorted(chance.sample(range(6), 2)) for _ in range(chance.randint(3, 14))]
        rules = {("settles", a, b) if chance.random() < 0.5 else ("within", b, a) for a, b in pairs}
        yield chance.sample(sorted(rules), len(rules))


class ModelTest(unittest.TestCase):

    def check(self, width, rules):
        made = Rules(width, *rules)
        table = model(made)
        self.assertIs(type(table), Table)
        self.assertEqual((table.width, table.rows), (width, plain_model(width, rules)), rules)
        self.assertEqual(table.obeyed().rules, tuple(sorted(plainly_following(width, rules))), rules)
        self.assertEqual(made.rules, tuple(rules))
        return table

    def test_of_the_overview(self):
        self.assertEqual(model(Rules(2, ("settles", 0, 1))).text(), "0 3\n1 3\n2 4\n")

    def test_without_rules(self):
        self.assertEqual(model(Rules(1)).rows, ((0,), (1,)))
        self.assertEqual(model(Rules(3)).rows, ((0, 2, 4), (1, 2, 4), (0, 3, 4), (0, 2, 5)))

    def test_written_out(self):
        # The numbers N are 2, 2 and 5, r is 1, 1 and 4, and n is 2, 2 and 1.
        rules = Rules(3, ("within", 0, 2), ("within", 1, 2))
        self.assertEqual(model(rules).rows,
                         ((0, 2, 0), (1, 2, 0), (0, 3, 0), (0, 2, 1), (0, 2, 2), (0, 2, 3), (0, 2, 4)))
        # Both columns are in each of the two classes, with N = 2, r = 1 and n = 2.
        self.assertEqual(model(Rules(2, ("settles", 0, 1), ("within", 0, 1))).rows, ((0, 0), (1, 1)))

    def test_all_lists_of_few_columns(self):
        for width in (1, 2):
            for rules in all_lists(width):
                self.check(width, rules)
        for rules in all_lists(3)[::3]:
            self.check(3, rules)

    def test_many_lists(self):
        for width in range(1, 7):
            for rules in many_lists(width):
                table = self.check(width, rules)
                self.check(width, rules[::-1])
                self.assertLessEqual(len(table), 90)

    def test_numbers_of_the_groups(self):
        chance = random.Random(50)
        largest = 0
        for rules in ranked_lists(chance):
            table = self.check(6, rules)
            plain = PlainModel(6, rules)
            self.assertEqual(table.counts, tuple(plain.group_number(column) for column in range(6)))
            for count, bound in zip(sorted(table.counts), GREATEST):
                self.assertLessEqual(count, bound)
            self.assertLessEqual(len(table), 90)
            largest = max(largest, len(table))
        self.assertGreater(largest, 15)

    def test_columns_of_a_group_have_equally_many_values(self):
        for width in range(1, 7):
            for rules in many_lists(width)[::4]:
                made = Rules(width, *rules)
                counts = model(made).counts
                for group in groups(made):
                    self.assertEqual(len({counts[column] for column in group}), 1)

    def test_again_the_same_rows(self):
        rules = Rules(4, ("settles", 0, 1), ("within", 2, 3), ("within", 1, 3))
        self.assertEqual(model(rules).rows, model(rules).rows)


class LeastTest(unittest.TestCase):

    def check(self, width, rules):
        made = Rules(width, *rules)
        left = least(made)
        self.assertIs(type(left), Rules)
        self.assertEqual((left.width, left.rules), (width, plain_least(width, rules)), rules)
        self.assertEqual(list(following(left)), list(following(made)))
        self.assertEqual(made.rules, tuple(rules))
        self.assertEqual(least(left).rules, left.rules)

    def test_some(self):
        chain = [("settles", 0, 1), ("settles", 1, 2), ("settles", 0, 2)]
        self.assertEqual(least(Rules(3, *chain)).rules, tuple(chain[:2]))
        self.assertEqual(least(Rules(3, *chain[::-1])).rules, tuple(chain[1::-1]))
        self.assertEqual(least(Rules(2)).rules, ())

    def test_from_the_last_to_the_first(self):
        turned = [("settles", 0, 1), ("within", 0, 1), ("settles", 1, 0)]
        self.assertEqual(least(Rules(2, *turned)).rules, tuple(turned[:2]))
        # Without the rule "within", the last one does not follow from the first, nor the other way round.
        self.assertEqual(least(Rules(2, turned[0], turned[2])).rules, (turned[0], turned[2]))
        # The last one is needed here, the first one is not.
        self.assertEqual(least(Rules(2, *turned[::-1])).rules, (turned[1], turned[0]))
        # Each of the four follows from the other three; the later two are removed.
        every = rules_for(2)
        self.assertEqual(least(Rules(2, every[0], every[2], every[1], every[3])).rules, (every[0], every[2]))

    def test_all_rules_of_six_columns(self):
        self.check(6, rules_for(6))
        self.check(6, rules_for(6)[::-1])

    def test_all_lists_of_two_columns(self):
        for rules in all_lists(2):
            self.check(2, rules)
            self.check(2, rules[::-1])

    def test_many_lists(self):
        for width in range(1, 7):
            for rules in many_lists(width)[::2]:
                self.check(width, rules)


class NotRulesTest(unittest.TestCase):

    def test_any_value(self):
        rules = Rules(2, ("settles", 0, 1))
        for wrong in any_values() + [rules.rules, rules.text(), [rules], (rules,), Table(2)]:
            for call in (model, least):
                with self.assertRaises(NotRules) as caught:
                    call(wrong)
                self.assertTrue(str(caught.exception))

    def test_by_name(self):
        self.assertEqual(least(rules=Rules(2)).rules, ())
        self.assertEqual(model(rules=Rules(1)).rows, ((0,), (1,)))


if __name__ == "__main__":
    unittest.main()
