"""Lots: how many friends are at each place."""

from liftedladders.errors import BadLot, BadMove, BadWorths
from liftedladders.numbers import fraction, is_whole
from liftedladders.ways import is_move, is_place


def told_worths(worths):
    """What any value tells for places: nothing if it is no dict."""
    if not isinstance(worths, dict):
        return {}
    # A key such as (True, 0) is equal to (1, 0) for Python, but it is no place.
    return {place: worths[place] for place in worths if is_place(place)}


class Lot:
    """How many friends are at each place; it never changes."""

    def __init__(self, counts):
        if not isinstance(counts, dict):
            raise BadLot(None)
        there = {}
        for place in counts:
            if not is_place(place) or not is_whole(counts[place]) or counts[place] < 0:
                raise BadLot(place)
            if counts[place] > 0:
                there[place] = counts[place]
        self._there = there

    @staticmethod
    def at(place, many):
        """So many friends at one place."""
        if not is_place(place):
            raise BadLot(place)
        return Lot({place: many})

    def __eq__(self, other):
        return isinstance(other, Lot) and self._there == other._there

    def __getitem__(self, at):
        """The number of friends at a place, 0 for any other value."""
        return self._there.get(at, 0) if is_place(at) else 0

    def __contains__(self, x):
        """Whether somebody is at a place."""
        return is_place(x) and x in self._there

    def __iter__(self):
        raise TypeError("a lot cannot be iterated")

    def __add__(self, other):
        """The friends of both lots together."""
        if not isinstance(other, Lot):
            raise BadLot(other)
        return Lot({place: self[place] + other[place] for place in self.places() + other.places()})

    def __le__(self, other):
        """Whether the other lot has at least as many at each place."""
        if not isinstance(other, Lot):
            raise BadLot(other)
        return all([self[place] <= other[place] for place in self.places()])

    def places(self):
        """The ascending list of the places where somebody is."""
        return sorted(set(self._there))

    def total(self):
        """How many friends there are."""
        return sum(self._there.values())

    def can(self, move):
        """Whether any value is a move that can be made."""
        return is_move(move) and all([self[place] >= move[0].count(place) for place in move[0]])

    def after(self, move):
        """The lot behind a move."""
        if not self.can(move):
            raise BadMove(move)
        there = {place: self._there[place] for place in self._there}
        for place in move[0]:
            there[place] = there[place] - 1
        for place in move[2]:
            there[place] = there.get(place, 0) + 1
        return Lot(there)

    def mean(self, worths):
        """The mean worth as a fraction."""
        if not self._there:
            raise BadLot(None)
        told = told_worths(worths)
        together = 0
        for place in self.places():
            if not is_whole(told.get(place)):
                raise BadWorths(place)
            together = together + self._there[place] * told[place]
        return fraction(together, self.total())


def lots_behind(lot, moves):
    """The lots behind none of some moves, behind the first one, and so on."""
    # Copied, so that a list that is changed between two lots changes nothing.
    row = list(moves)
    behind = lot
    yield behind
    for index, move in enumerate(row):
        if not behind.can(move):
            raise BadMove(index)
        behind = behind.after(move)
        yield behind
