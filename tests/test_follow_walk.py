import inspect
import unittest

from countcycles.errors import NoColumn, NotRules
from countcycles.follow import following, groups, walk
from countcycles.rules import Rules
from countcycles.tables import Table
from tests.plain import plain_groups, plain_walk
from tests.samples import NO_WIDTHS, all_lists, any_values, many_lists, plainly_following, rules_for


def some_lists():
    """All lists of two columns and many of one to six, with their widths."""
    for rules in all_lists(2):
        yield 2, rules
    for width in range(1, 7):
        for rules in many_lists(width):
            yield width, rules


class WalkTest(unittest.TestCase):

    def test_directions_of_the_steps(self):
        settles = Rules(2, ("settles", 0, 1))
        self.assertEqual(walk(settles, 0, 1), (0, 1))
        self.assertIsNone(walk(settles, 1, 0))
        within = Rules(2, ("within", 0, 1))
        self.assertEqual(walk(within, 1, 0), (1, 0))
        self.assertIsNone(walk(within, 0, 1))

    def test_from_a_column_to_itself(self):
        for width in range(1, 7):
            for rules in (Rules(width), Rules(width, *rules_for(width))):
                for column in range(width):
                    self.assertEqual(walk(rules, column, column), (column,))

    def test_the_shortest(self):
        rules = Rules(4, ("settles", 0, 1), ("settles", 1, 2), ("settles", 2, 3), ("within", 3, 1))
        self.assertEqual(walk(rules, 0, 3), (0, 1, 3))
        self.assertEqual(walk(rules + Rules(4, ("within", 3, 0)), 0, 3), (0, 3))

    def test_the_first_of_several(self):
        diamond = [("settles", 0, 2), ("settles", 2, 3), ("within", 1, 0), ("within", 3, 1)]
        self.assertEqual(walk(Rules(4, *diamond), 0, 3), (0, 1, 3))
        self.assertEqual(walk(Rules(4, *diamond[::-1]), 0, 3), (0, 1, 3))
        late = [("settles", 0, 1), ("settles", 1, 4), ("settles", 4, 5), ("settles", 0, 2), ("settles", 2, 3),
                ("settles", 3, 5)]
        self.assertEqual(walk(Rules(6, *late), 0, 5), (0, 1, 4, 5))

    def test_all_ways_tried(self):
        for width, rules in some_lists():
            made = Rules(width, *rules)
            for a in range(width):
                for b in range(width):
                    found = walk(made, a, b)
                    self.assertEqual(found, plain_walk(width, rules, a, b), (width, rules, a, b))
                    self.assertIn(type(found), (tuple, type(None)))
            self.assertEqual(made.rules, tuple(rules))

    def test_no_column(self):
        rules = Rules(3, ("settles", 0, 1))
        for wrong in (-1, 3, 4, 10 ** 12, True, False, None, "0", "", (0,), [0], {0: 0}, rules, Table(3)):
            for a, b in ((wrong, 0), (0, wrong), (wrong, wrong)):
                with self.subTest(a=a, b=b), self.assertRaises(NoColumn) as caught:
                    walk(rules, a, b)
                self.assertTrue(str(caught.exception))

    def test_the_width_counts(self):
        for width in range(1, 7):
            self.assertIsNone(walk(Rules(width), 0, width - 1) if width > 1 else None)
            with self.assertRaises(NoColumn):
                walk(Rules(width), 0, width)

    def test_by_names(self):
        self.assertEqual(walk(rules=Rules(2, ("settles", 0, 1)), a=0, b=1), (0, 1))


class GroupsTest(unittest.TestCase):

    def test_some(self):
        self.assertEqual(groups(Rules(3)), ((0,), (1,), (2,)))
        self.assertEqual(groups(Rules(1)), ((0,),))
        self.assertEqual(groups(Rules(3, ("settles", 2, 0), ("within", 2, 0))), ((0, 2), (1,)))
        self.assertEqual(groups(Rules(3, ("settles", 2, 0), ("within", 0, 2))), ((0,), (1,), (2,)))

    def test_as_said(self):
        for width, rules in some_lists():
            found = groups(Rules(width, *rules))
            self.assertEqual(found, plain_groups(width, rules), (width, rules))
            self.assertEqual({type(part) for part in (found, *found)}, {tuple})


class FollowingTest(unittest.TestCase):

    def test_as_said(self):
        for width, rules in some_lists():
            made = Rules(width, *rules)
            found = list(following(made))
            self.assertEqual(found, sorted(plainly_following(width, rules)), (width, rules))
            self.assertEqual({type(rule) for rule in found} - {tuple}, set())

    def test_the_same_as_asked_one_by_one(self):
        for width, rules in list(some_lists())[::9]:
            made = Rules(width, *rules)
            self.assertEqual(list(following(made)), [rule for rule in rules_for(width) if made(rule)])

    def test_a_generator(self):
        self.assertTrue(inspect.isgenerator(following(Rules(2))))
        steps = following(Rules(2, ("settles", 0, 1)))
        self.assertEqual(next(steps), ("settles", 0, 1))
        with self.assertRaises(StopIteration):
            next(steps)

    def test_asked_twice_and_side_by_side(self):
        rules = Rules(3, ("settles", 0, 1), ("settles", 1, 2), ("within", 0, 2))
        expected = sorted(plainly_following(3, rules.rules))
        self.assertEqual(list(following(rules)), list(following(rules)))
        self.assertEqual(list(zip(following(rules), following(rules))), [(rule, rule) for rule in expected])
        one = following(rules)
        first = next(one)
        other = list(following(rules))
        self.assertEqual([first] + list(one), other)


class NotRulesTest(unittest.TestCase):

    def test_any_value(self):
        rules = Rules(2, ("settles", 0, 1))
        for wrong in any_values() + list(NO_WIDTHS) + [rules.rules, rules.text(), [rules], (rules,), Table(2)]:
            if not isinstance(wrong, Rules):
                for call in (lambda: walk(wrong, 0, 0), lambda: groups(wrong), lambda: list(following(wrong))):
                    with self.assertRaises(NotRules) as caught:
                        call()
                    self.assertTrue(str(caught.exception))

    def test_ahead_of_no_column(self):
        for a, b in ((0, 7), (True, 0), (None, None)):
            with self.assertRaises(NotRules):
                walk(None, a, b)

    def test_a_generator_raises_when_it_is_first_iterated(self):
        asked = following(None)
        with self.assertRaises(NotRules):
            next(asked)


if __name__ == "__main__":
    unittest.main()
