"""Logs: tables that change, and whose changes can be taken back."""

from countcycles.columns import MOST_ROWS, holds, is_an_integer, is_row
from countcycles.errors import Broken, NoNumber, NoRow, NothingDone, NotRules, NotTable, NotThere, TooMuch, UnlikeWidths
from countcycles.rules import Rules
from countcycles.tables import Table


def rules_broken(rules, rows):
    """The list of the given rules that do not hold in the rows, in their order."""
    return [rule for rule in rules.rules if not holds(rows, rule)]


class Trying:
    """For one with statement: leads a log back to where the block began if an exception leaves it."""

    def __init__(self, log):
        self.log = log
        self.held = log.held
        self.past = log.past

    def __enter__(self):
        self.held = self.log.held
        # The log goes on with its own list inside the block.
        self.past = list(self.log.past)
        return self.log

    def __exit__(self, kind, value, trace):
        if kind is not None:
            self.log.held = self.held
            self.log.past = self.past
        return False


# The interface lists all methods of a Log for the other three classes, too, so each class has them in its own body.
# They differ in what their method check refuses. In a StrictShort, the check of Strict asks that of Short first, so
# too many rows come ahead of broken rules.


class Log:
    """A table that changes, beside the rules that were given for it."""

    def __init__(self, rules):
        if not isinstance(rules, Rules):
            raise NotRules("this is not a list of rules")
        self.book = rules
        self.held = Table(rules.width)
        self.past = []

    @property
    def rules(self):
        """The given rules."""
        return self.book

    @property
    def table(self):
        """The table as it is now."""
        return self.held

    @table.setter
    def table(self, value):
        self.assign_table(value)

    @property
    def broken(self):
        """The tuple of the given rules that do not hold in the table, in their order."""
        return tuple(rules_broken(self.book, self.held.rows))

    @property
    def changes(self):
        """How many changes there are that have not been taken back."""
        return len(self.past)

    def __len__(self):
        return len(self.held.rows)

    def __repr__(self):
        return f"Log({len(self.held.rows)} rows)"

    def check(self, rows):
        """Raise an error if the log refuses a table with these rows."""
        if len(rows) > MOST_ROWS:
            raise TooMuch("a table has at most 400 rows")

    def change(self, table):
        """Make this the table, so that it can be taken back."""
        self.past.append(self.held)
        self.held = table

    def assign_table(self, table):
        """Make this the table."""
        if not isinstance(table, Table):
            raise NotTable("this is not a table")
        if table.width != self.book.width:
            raise UnlikeWidths("the table must have the width of the rules")
        self.check(table.rows)
        self.change(table)

    def add(self, row):
        """Put a row behind the others."""
        if not is_row(self.book.width, row):
            raise NoRow("this is not a row for the width")
        rows = [*self.held.rows, row]
        self.check(rows)
        self.change(Table(self.book.width, *rows))

    def __call__(self, row):
        """Put a row behind the others."""
        self.add(row)

    def drop(self, row):
        """Remove the last row that is equal to this one."""
        if not is_row(self.book.width, row):
            raise NoRow("this is not a row for the width")
        places = [place for place, other in enumerate(self.held.rows) if other == row]
        if not places:
            raise NotThere("the table does not have this row")
        rows = [other for place, other in enumerate(self.held.rows) if place != places[-1]]
        self.change(Table(self.book.width, *rows))

    def undo(self):
        """Take back the last change that has not been taken back."""
        if not self.past:
            raise NothingDone("there is no change to take back")
        self.held = self.past.pop()

    def trying(self):
        """An object for one with statement, which leads the log back if an exception leaves the block."""
        return Trying(self)


class Strict(Log):
    """A log that refuses rows and tables with which a given rule that says settles would not hold."""

    def __init__(self, rules):
        Log.__init__(self, rules)

    @property
    def rules(self):
        """The given rules."""
        return self.book

    @property
    def table(self):
        """The table as it is now."""
        return self.held

    @table.setter
    def table(self, value):
        self.assign_table(value)

    @property
    def broken(self):
        """The tuple of the given rules that do not hold in the table, in their order."""
        return tuple(rules_broken(self.book, self.held.rows))

    @property
    def changes(self):
        """How many changes there are that have not been taken back."""
        return len(self.past)

    def __len__(self):
        return len(self.held.rows)

    def __repr__(self):
        return f"Strict({len(self.held.rows)} rows)"

    def check(self, rows):
        """Raise an error if the log refuses a table with these rows."""
        super().check(rows)
        if any([kind == "settles" for kind, a, b in rules_broken(self.book, rows)]):
            raise Broken("a given rule that says settles would not hold")

    def assign_table(self, table):
        """Make this the table, if the rules that say settles hold in it."""
        super().assign_table(table)

    def add(self, row):
        """Put a row behind the others, if the rules that say settles hold with it."""
        super().add(row)

    def __call__(self, row):
        """Put a row behind the others, if the rules that say settles hold with it."""
        self.add(row)

    def drop(self, row):
        """Remove the last row that is equal to this one."""
        super().drop(row)

    def undo(self):
        """Take back the last change that has not been taken back."""
        super().undo()

    def trying(self):
        """An object for one with statement, which leads the log back if an exception leaves the block."""
        return super().trying()


class Short(Log):
    """A log that refuses more than a number of rows."""

    def __init__(self, rules, most=10):
        Log.__init__(self, rules)
        if not is_an_integer(most) or not 0 <= most <= MOST_ROWS:
            raise NoNumber("a log can be limited to 0 to 400 rows")
        self.limit = most

    @property
    def rules(self):
        """The given rules."""
        return self.book

    @property
    def most(self):
        """The greatest number of rows."""
        return self.limit

    @property
    def table(self):
        """The table as it is now."""
        return self.held

    @table.setter
    def table(self, value):
        self.assign_table(value)

    @property
    def broken(self):
        """The tuple of the given rules that do not hold in the table, in their order."""
        return tuple(rules_broken(self.book, self.held.rows))

    @property
    def changes(self):
        """How many changes there are that have not been taken back."""
        return len(self.past)

    def __len__(self):
        return len(self.held.rows)

    def __repr__(self):
        return f"Short({len(self.held.rows)} rows)"

    def check(self, rows):
        """Raise an error if the log refuses a table with these rows."""
        super().check(rows)
        if len(rows) > self.limit:
            raise TooMuch("the log refuses so many rows")

    def assign_table(self, table):
        """Make this the table, if it does not have too many rows."""
        super().assign_table(table)

    def add(self, row):
        """Put a row behind the others, if there are not too many."""
        super().add(row)

    def __call__(self, row):
        """Put a row behind the others, if there are not too many."""
        self.add(row)

    def drop(self, row):
        """Remove the last row that is equal to this one."""
        super().drop(row)

    def undo(self):
        """Take back the last change that has not been taken back."""
        super().undo()

    def trying(self):
        """An object for one with statement, which leads the log back if an exception leaves the block."""
        return super().trying()


class StrictShort(Strict, Short):
    """A log that refuses what a Strict or a Short refuses."""

    def __init__(self, rules, most=10):
        Short.__init__(self, rules, most)

    @property
    def rules(self):
        """The given rules."""
        return self.book

    @property
    def most(self):
        """The greatest number of rows."""
        return self.limit

    @property
    def table(self):
        """The table as it is now."""
        return self.held

    @table.setter
    def table(self, value):
        self.assign_table(value)

    @property
    def broken(self):
        """The tuple of the given rules that do not hold in the table, in their order."""
        return tuple(rules_broken(self.book, self.held.rows))

    @property
    def changes(self):
        """How many changes there are that have not been taken back."""
        return len(self.past)

    def __len__(self):
        return len(self.held.rows)

    def __repr__(self):
        return f"StrictShort({len(self.held.rows)} rows)"

    def assign_table(self, table):
        """Make this the table, if neither a Short nor a Strict refuses it."""
        super().assign_table(table)

    def add(self, row):
        """Put a row behind the others, if neither a Short nor a Strict refuses it."""
        super().add(row)

    def __call__(self, row):
        """Put a row behind the others, if neither a Short nor a Strict refuses it."""
        self.add(row)

    def drop(self, row):
        """Remove the last row that is equal to this one."""
        super().drop(row)

    def undo(self):
        """Take back the last change that has not been taken back."""
        super().undo()

    def trying(self):
        """An object for one with statement, which leads the log back if an exception leaves the block."""
        return super().trying()
