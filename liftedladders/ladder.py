"""Ladders: players by names, whose steps can be taken back."""

from liftedladders.books import Book, is_result
from liftedladders.errors import BadBook, BadGame, BadName, NothingToUndo

LETTERS = "abcdefghijklmnopqrstuvwxyz"
MOST_LETTERS = 8


def is_name(value):
    """Whether any value is a word of one to eight small letters."""
    if not isinstance(value, str) or not 1 <= len(value) <= MOST_LETTERS:
        return False
    return all([letter in LETTERS for letter in value])


class Trial:
    """One with block, behind which a ladder is as ahead of it."""

    def __init__(self, ladder):
        self._ladder = ladder
        self._book = None
        self._there = None
        self._steps = None

    def __enter__(self):
        self._book, self._there, self._steps = self._ladder.kept()
        return self._ladder

    def __exit__(self, kind, value, trace):
        self._ladder._book = self._book
        self._ladder._there = self._there
        self._ladder._steps = self._steps


class Ladder:
    """Players by names, each at a place of one book.

    A step is kept as a tuple: the book ahead of it, tuples (name, place ahead of it or None) of the players whom it
    moved, and the counted game, or None.
    """

    def __init__(self, book):
        if not isinstance(book, Book):
            raise BadBook("book")
        self._book = book
        self._there = {}
        self._steps = []

    def __getitem__(self, at):
        """The place of a player."""
        if at not in self:
            raise BadName(at)
        return self._there[at]

    def __iter__(self):
        raise TypeError("a ladder cannot be iterated")

    def __contains__(self, x):
        """Whether any value is the name of a player."""
        return is_name(x) and x in self._there

    def __len__(self):
        return len(self._there)

    def __call__(self, name):
        """The rating of a player."""
        return self[name][0]

    @property
    def book(self):
        """The book."""
        return self._book

    @book.setter
    def book(self, value):
        self.rebook(value)

    def join(self, name, rating):
        """A newcomer joins with a rating."""
        if not is_name(name) or name in self._there:
            raise BadName(name)
        place = self._book.start(rating)
        self._steps.append((self._book, ((name, None),), None))
        self._there[name] = place

    def enter(self, one, other, result):
        """Enters a game that was played, and tells whether it counted."""
        for name in (one, other):
            if name not in self:
                raise BadName(name)
        if one == other:
            raise BadName(other)
        if not is_result(result):
            raise BadGame(result)
        upper, lower = (one, other) if self[one][0] >= self[other][0] else (other, one)
        behind = self._book.game(self[upper], self[lower], result)
        if behind is None:
            self._steps.append((self._book, (), None))
            return False
        ahead = ((upper, self[upper]), (lower, self[lower]))
        self._steps.append((self._book, ahead, (upper, lower, result)))
        self._there[upper], self._there[lower] = behind
        return True

    def rebook(self, book):
        """Puts another book."""
        if not isinstance(book, Book) or not all([place in book for place in self._there.values()]):
            raise BadBook("book")
        self._steps.append((self._book, (), None))
        self._book = book

    def names(self):
        """The names, ascending."""
        return sorted(set(self._there))

    def order(self):
        """The names by rating, the greatest first, then ascending."""
        return [name for _, name in sorted(set([(-self._there[name][0], name) for name in self._there]))]

    def games(self):
        """The list of the counted games (one, other, result), the oldest first, with the upper one first."""
        return [game for _, _, game in self._steps if game is not None]

    def undo(self):
        """Takes back the last step that is not taken back."""
        if len(self._steps) == 0:
            raise NothingToUndo("step")
        self._book, moved, _ = self._steps.pop()
        for name, place in moved:
            if place is None:
                del self._there[name]
            else:
                self._there[name] = place

    def attempt(self, deed):
        """What a function of the ladder returns; behind it the ladder is as ahead of it."""
        with self.trying() as ladder:
            told = deed(ladder)
        return told

    def trying(self):
        """An object for one with block that gives the ladder; behind it the ladder is as ahead of it."""
        return Trial(self)

    def kept(self):
        """The book, and copies of what else a trial puts back."""
        return (self._book, {name: self._there[name] for name in self._there}, list(self._steps))
