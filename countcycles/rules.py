"""Lists of rules between columns."""

from countcycles.columns import every_rule, is_rule, is_width
from countcycles.errors import NoRule, NoRules, NoText, NotRules, NoWidth, UnlikeWidths
from countcycles.ways import follows


def line_of(rule):
    """The line that stands for a rule in a text, without its line feed."""
    kind, first, second = rule
    return f"{first} {kind} {second}"


def rules_of(width, text):
    """The rules that a text lists, in their order, or None if it is not the text of a list."""
    # Whole lines are looked up, so that no other spelling of a number can pass.
    known = {line_of(rule): rule for rule in every_rule(width)}
    parts = text.split("\n")
    lines = parts[:-1]
    if parts[-1] != "" or len(set(lines)) != len(lines):
        return None
    if not all([line in known for line in lines]):
        return None
    return [known[line] for line in lines]


class Rules:
    """A list of different rules for the columns of a width; it does not change."""

    def __init__(self, width, *rules):
        if not is_width(width):
            raise NoWidth("a width is an integer from 1 to 6")
        if not all([is_rule(width, rule) for rule in rules]):
            raise NoRules("each rule must be a rule for the width")
        if len(set(rules)) != len(rules):
            raise NoRules("no rule may occur twice")
        self.span = width
        self.given = rules

    @property
    def width(self):
        """The number of columns."""
        return self.span

    @property
    def rules(self):
        """The tuple of the rules, as given."""
        return self.given

    def __len__(self):
        return len(self.given)

    def __repr__(self):
        return f"Rules({self.span} columns, {len(self.given)} rules)"

    def __eq__(self, other):
        if not isinstance(other, Rules) or self.span != other.span:
            return False
        return sorted(self.given) == sorted(other.given)

    def __contains__(self, thing):
        # A bool equals an integer for Python, so the form is tested first.
        return is_rule(self.span, thing) and thing in self.given

    def __call__(self, rule):
        """Tell whether a rule follows from those of the list."""
        if not is_rule(self.span, rule):
            raise NoRule("this is not a rule for the width")
        return follows(self.span, self.given, rule)

    def __add__(self, other):
        """The list with these rules and behind them those of the other that are not among them."""
        if not isinstance(other, Rules):
            raise NotRules("only a list of rules can be added")
        if self.span != other.span:
            raise UnlikeWidths("both lists must have the same width")
        added = [rule for rule in other.given if rule not in self.given]
        joined = [*self.given, *added]
        return Rules(self.span, *joined)

    def text(self):
        """The text with a line for each rule, in their order."""
        return "".join([f"{line_of(rule)}\n" for rule in self.given])

    @classmethod
    def read(cls, width, text):
        """The list with this width and exactly this text."""
        if not is_width(width):
            raise NoWidth("a width is an integer from 1 to 6")
        if not isinstance(text, str):
            raise NoText("only a text can be read")
        found = rules_of(width, text)
        if found is None:
            raise NoText("this is not the text of a list of rules for the width")
        return cls(width, *found)
