"""Rules by tables as objects."""

from someoneout.boardkinds import are_tables
from someoneout.circles import is_circle
from someoneout.demands import need
from someoneout.endboards import counts_of
from someoneout.rules import dues_at, gains_at, payments_at, rule_till


class Rule:
    """A circle and tables of its board."""

    def __init__(self, circle, tables):
        need(is_circle(circle), "circle")
        need(are_tables(counts_of(circle), tables), "tables")
        self.circle = circle
        self.tables = tables

    def dues(self, telling):
        """The due of each person."""
        return dues_at(self.circle, self.tables, telling)

    def payments(self, telling):
        """What each person pays."""
        return payments_at(self.circle, self.tables, telling)

    def till(self, telling):
        """All payments, added up."""
        return rule_till(self.circle, self.tables, telling)

    def gains(self, telling):
        """What each person gains."""
        return gains_at(self.circle, self.tables, telling)

    def told(self):
        """The pair of circle and tables."""
        return (self.circle, self.tables)

    def __eq__(self, other):
        return isinstance(other, Rule) and self.circle == other.circle and self.tables == other.tables
