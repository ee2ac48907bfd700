"""Taking back changes, one by one or by a block that an exception leaves."""

import random
import unittest

from countcycles.errors import Broken, ColumnError, NothingDone, NotThere, TooMuch
from countcycles.logs import Strict, StrictShort
from countcycles.rules import Rules
from countcycles.tables import Table
from tests.samples import CLASSES, SHORT, random_rows, state


class Stop(Exception):
    pass


def random_change(log, chance):
    """Try one change, and tell whether it was made."""
    width = log.rules.width
    row = random_rows(width, chance, 1, 1)[0]
    try:
        what = chance.randrange(5)
        if what == 0:
            log.add(row)
        elif what == 1:
            log(row)
        elif what == 2:
            log.drop(chance.choice(log.table.rows) if len(log) else row)
        elif what == 3:
            log.table = Table(width, *random_rows(width, chance, 0, 4))
        else:
            log.assign_table(Table(width, *random_rows(width, chance, 0, 2)))
    except (Broken, NotThere, TooMuch):
        return False
    return True


def some_logs(chance):
    """Logs of all four classes, with most = 5 where there is one."""
    for make in CLASSES:
        for rules in (Rules(1), Rules(2, ("settles", 0, 1)), Rules(3, ("within", 0, 1), ("settles", 2, 0))):
            for _ in range(6):
                yield make(rules, 5) if make in SHORT else make(rules)


class UndoTest(unittest.TestCase):

    def test_each_kind_of_change(self):
        for make in CLASSES:
            log = make(Rules(2))
            log.add((0, 1))
            log((2, 3))
            log.add((0, 1))
            log.drop((0, 1))
            log.table = Table(2, (9, 9))
            log.assign_table(Table(2))
            seen = []
            while log.changes:
                seen.append((log.changes, log.table.rows))
                log.undo()
            self.assertEqual(seen, [
                (6, ()), (5, ((9, 9),)), (4, ((0, 1), (2, 3))), (3, ((0, 1), (2, 3), (0, 1))), (2, ((0, 1), (2, 3))),
                (1, ((0, 1),))])
            self.assertEqual(log.table.rows, ())

    def test_a_row_returns_to_its_place(self):
        for make in CLASSES:
            log = make(Rules(1))
            log.table = Table(1, (0,), (1,), (2,))
            log.drop((1,))
            log.undo()
            self.assertEqual(log.table.rows, ((0,), (1,), (2,)))

    def test_an_assignment_of_the_same_table_is_a_change(self):
        for make in CLASSES:
            log = make(Rules(1))
            log.add((4,))
            log.table = log.table
            self.assertEqual(log.changes, 2)
            log.undo()
            self.assertEqual((log.changes, log.table.rows), (1, ((4,),)))

    def test_what_is_taken_back_is_gone(self):
        for make in CLASSES:
            log = make(Rules(1))
            log.add((1,))
            log.add((2,))
            log.undo()
            log.add((3,))
            self.assertEqual((log.changes, log.table.rows), (2, ((1,), (3,))))
            log.undo()
            log.undo()
            self.assertEqual((log.changes, log.table.rows), (0, ()))
            with self.assertRaises(NothingDone):
                log.undo()

    def test_calls_that_fail_are_no_changes(self):
        log = StrictShort(Rules(2, ("settles", 0, 1)), 2)
        log.add((0, 1))
        for call in (lambda: log.add((0, 2)), lambda: log.drop((5, 5)), lambda: log.add(None),
                     lambda: log.assign_table(None), lambda: log.assign_table(Table(3)),
                     lambda: log.assign_table(Table(2, *[(0, 0)] * 3))):
            with self.assertRaises(ColumnError):
                call()
        self.assertEqual(log.changes, 1)
        log.undo()
        self.assertEqual((log.changes, len(log)), (0, 0))

    def test_step_by_step(self):
        chance = random.Random(60)
        for log in some_logs(chance):
            states = [state(log)]
            for _ in range(40):
                if chance.random() < 0.25 and len(states) > 1:
                    log.undo()
                    states.pop()
                elif random_change(log, chance):
                    states.append(state(log))
                self.assertEqual(state(log), states[-1])
                self.assertEqual(log.changes, len(states) - 1)
            while len(states) > 1:
                log.undo()
                states.pop()
                self.assertEqual(state(log), states[-1])
            with self.assertRaises(NothingDone):
                log.undo()

    def test_many_changes(self):
        for make in CLASSES:
            log = make(Rules(1))
            for number in range(2000):
                log.add((number,))
                log.drop((number,))
            self.assertEqual((log.changes, len(log)), (4000, 0))
            for _ in range(3999):
                log.undo()
            self.assertEqual((log.changes, log.table.rows), (1, ((0,),)))


class TryingTest(unittest.TestCase):

    def test_without_an_exception(self):
        for make in CLASSES:
            log = make(Rules(1))
            log.add((1,))
            with log.trying():
                log.add((2,))
                log.drop((1,))
            self.assertEqual((log.table.rows, log.changes), (((2,),), 3))
            log.undo()
            self.assertEqual((log.table.rows, log.changes), (((1,), (2,)), 2))

    def test_with_an_exception(self):
        for make in CLASSES:
            log = make(Rules(1))
            log.add((1,))
            log.add((2,))
            before = state(log)
            stop = Stop("x")
            with self.assertRaises(Stop) as caught:
                with log.trying():
                    log.add((3,))
                    log.table = Table(1)
                    raise stop
            self.assertIs(caught.exception, stop)
            self.assertEqual(state(log), before)
            log.undo()
            self.assertEqual((log.table.rows, log.changes), (((1,),), 1))

    def test_undo_inside_the_block(self):
        for make in CLASSES:
            log = make(Rules(1))
            log.add((1,))
            log.add((2,))
            with self.assertRaises(Stop):
                with log.trying():
                    log.undo()
                    log.undo()
                    log.add((9,))
                    raise Stop
            self.assertEqual((log.table.rows, log.changes), (((1,), (2,)), 2))
            log.undo()
            self.assertEqual((log.table.rows, log.changes), (((1,),), 1))
            log.undo()
            self.assertEqual((log.table.rows, log.changes), ((), 0))
            with log.trying():
                log.add((4,))
                log.undo()
            self.assertEqual((log.table.rows, log.changes), ((), 0))

    def test_errors_of_the_log_itself(self):
        log = Strict(Rules(2, ("settles", 0, 1)))
        with self.assertRaises(Broken):
            with log.trying():
                log.add((0, 1))
                log.add((0, 2))
        self.assertEqual((len(log), log.changes), (0, 0))
        for make in CLASSES:
            log = make(Rules(1))
            with self.assertRaises(NothingDone):
                with log.trying():
                    log.add((5,))
                    log.undo()
                    log.undo()
            self.assertEqual((len(log), log.changes), (0, 0))

    def test_an_exception_that_stays_inside(self):
        for make in CLASSES:
            log = make(Rules(1))
            with log.trying():
                log.add((1,))
                try:
                    log.drop((2,))
                except NotThere:
                    log.add((2,))
            self.assertEqual((log.table.rows, log.changes), (((1,), (2,)), 2))

    def test_other_ways_out_of_the_block(self):
        def left_early(log):
            with log.trying():
                log.add((1,))
                return "out"

        for make in CLASSES:
            log = make(Rules(1))
            self.assertEqual(left_early(log), "out")
            for _ in range(3):
                with log.trying():
                    log.add((2,))
                    break
            self.assertEqual(log.table.rows, ((1,), (2,)))
            for stop in (KeyboardInterrupt, GeneratorExit, SystemExit):
                with self.assertRaises(stop):
                    with log.trying():
                        log.add((3,))
                        raise stop
            self.assertEqual((log.table.rows, log.changes), (((1,), (2,)), 2))

    def test_as_it_was_when_the_block_began(self):
        for make in CLASSES:
            log = make(Rules(1))
            block = log.trying()
            log.add((1,))
            with self.assertRaises(Stop):
                with block:
                    log.add((2,))
                    raise Stop
            self.assertEqual((log.table.rows, log.changes), (((1,),), 1))

    def test_blocks_inside_each_other(self):
        for make in CLASSES:
            log = make(Rules(1))
            with log.trying():
                log.add((1,))
                with self.assertRaises(Stop):
                    with log.trying():
                        log.add((2,))
                        raise Stop
                log.add((3,))
            self.assertEqual((log.table.rows, log.changes), (((1,), (3,)), 2))
            with self.assertRaises(Stop):
                with log.trying():
                    log.undo()
                    with log.trying():
                        log.add((4,))
                    log.undo()
                    raise Stop
            self.assertEqual((log.table.rows, log.changes), (((1,), (3,)), 2))
            log.undo()
            self.assertEqual((log.table.rows, log.changes), (((1,),), 1))

    def test_two_logs(self):
        for make in CLASSES:
            one, other = make(Rules(1)), make(Rules(1))
            with self.assertRaises(Stop):
                with one.trying():
                    one.add((1,))
                    other.add((2,))
                    raise Stop
            self.assertEqual((len(one), other.table.rows), (0, ((2,),)))

    def test_many_blocks(self):
        chance = random.Random(62)
        for log in some_logs(chance):
            states = [state(log)]
            for _ in range(15):
                kept = list(states)
                fails = chance.random() < 0.5
                try:
                    with log.trying():
                        for _ in range(chance.randint(0, 5)):
                            if chance.random() < 0.3 and len(states) > 1:
                                log.undo()
                                states.pop()
                            elif random_change(log, chance):
                                states.append(state(log))
                        if fails:
                            raise Stop
                except Stop:
                    states = kept
                self.assertEqual(state(log), states[-1])
            while len(states) > 1:
                log.undo()
                states.pop()
                self.assertEqual(state(log), states[-1])


if __name__ == "__main__":
    unittest.main()
