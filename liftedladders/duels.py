"""Duels: what the difference of two friends becomes who play without floors, ceilings, newcomers and bonuses."""

from liftedladders.books import MOST_RATING, RESULTS, is_result, is_table, row_at
from liftedladders.errors import BadBook, BadGame
from liftedladders.numbers import is_integer


def greatest_span(table):
    """By how much a counted game of a table changes the difference at most."""
    span = 0
    for row in table:
        for entry in row[1:]:
            if entry is not None and abs(entry[0] - entry[1]) > span:
                span = abs(entry[0] - entry[1])
    return span


class Duel:
    """A table by which two friends play."""

    def __init__(self, table):
        if not is_table(table):
            raise BadBook("table")
        self.table = tuple(table)
        self.span = greatest_span(table)
        last = table[-1][0]
        self.far = self.span if self.span > last else last

    def __eq__(self, other):
        return isinstance(other, Duel) and self.table == other.table

    def __getitem__(self, at):
        """The row that holds for a difference."""
        return row_at(self.table, at)

    def __iter__(self):
        raise TypeError("a duel cannot be iterated")

    def step(self, difference, result):
        """The difference behind a game and the points that it makes, or None if it does not count."""
        row = self[difference]
        if not is_result(result):
            raise BadGame(result)
        entry = row[1 + RESULTS.index(result)]
        if entry is None:
            return None
        return (abs(difference + entry[0] - entry[1]), entry[0] + entry[1])

    def window(self, first):
        """The greatest difference of the window."""
        if not is_integer(first, 0, MOST_RATING):
            raise BadGame(first)
        near = self.far + self.span
        return (first if first > near else near) + self.span

    def play(self, first, results):
        """The differences, with the points in all, behind none of some results, behind the first one, and so on."""
        self.window(first)
        # Copied, so that a list that is changed between two answers changes nothing.
        row = list(results)
        difference, points = first, 0
        yield (difference, points)
        for index, result in enumerate(row):
            behind = self.step(difference, result) if is_result(result) else None
            if behind is None:
                raise BadGame(index)
            difference = behind[0]
            points = points + behind[1]
            yield (difference, points)
