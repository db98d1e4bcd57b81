"""Boards as objects."""

from someoneout.boardkinds import are_counts, are_worths, place_count
from someoneout.demands import need
from someoneout.mixed import mixed_at, uneven_place
from someoneout.spanpapers import least_span
from someoneout.tables import till_row


class Board:
    """Rows of persons, and a worth for each place."""

    def __init__(self, counts, worths):
        need(are_counts(counts), "counts")
        need(are_worths(place_count(counts), worths), "worths")
        self.pair = (counts, worths)

    def span(self):
        """The least span that tables have."""
        return least_span(self.pair)

    def till(self, tables):
        """The tills at all places."""
        return till_row(self.pair, tables)

    def mixed(self, here, there):
        """The mixed difference between two places."""
        return mixed_at(self.pair, here, there)

    def even(self):
        """Whether all mixed differences are 0."""
        return uneven_place(self.pair) is None

    def told(self):
        """The pair of counts and worths."""
        return self.pair

    def __eq__(self, other):
        return isinstance(other, Board) and self.pair == other.pair
