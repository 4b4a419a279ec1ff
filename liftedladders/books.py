"""Books: how two ratings change by a game."""

from liftedladders.errors import BadBook, BadGame, BadPlace, TooMany
from liftedladders.numbers import ascends, is_integer, is_whole

RESULTS = ("upper", "draw", "lower")
PARTS = ("low", "high", "table", "fresh", "times", "bonus")
MOST_RATING = 23
MOST_CHANGE = 9
MOST_ROWS = 6
MOST_PLACES = 24


def is_result(value):
    """Whether any value is a result."""
    return isinstance(value, str) and value in RESULTS


def is_entry(value):
    """Whether any value is an entry of a row: two changes, or None."""
    if value is None:
        return True
    if not isinstance(value, tuple) or len(value) != 2:
        return False
    return all([is_integer(change, -MOST_CHANGE, MOST_CHANGE) for change in value])


def is_row(value):
    """Whether any value is a row of a table."""
    if not isinstance(value, tuple) or len(value) != 4:
        return False
    return is_integer(value[0], 0, MOST_RATING) and all([is_entry(entry) for entry in value[1:]])


def is_table(value):
    """Whether any value is a table: a list of one to six rows with ascending borders from 0 on."""
    if not isinstance(value, (list, tuple)) or not 1 <= len(value) <= MOST_ROWS:
        return False
    if not all([is_row(row) for row in value]) or value[0][0] != 0:
        return False
    return ascends([row[0] for row in value])


def row_at(table, difference):
    """The row of a table that holds for a difference."""
    if not is_whole(difference) or difference < 0:
        raise BadGame(difference)
    return [row for row in table if row[0] <= difference][-1]


def kept_within(rating, low, high):
    """The rating, not below low and not above high."""
    if rating < low:
        return low
    if rating > high:
        return high
    return rating


class Book:
    """A book: by the difference of two ratings and the result, how both change."""

    def __init__(self, low, high, table, *, fresh=0, times=1, bonus=0):
        if not is_integer(low, 0, MOST_RATING):
            raise BadBook("low")
        if not is_integer(high, low, MOST_RATING):
            raise BadBook("high")
        if not is_table(table):
            raise BadBook("table")
        if not is_integer(fresh, 0, 2):
            raise BadBook("fresh")
        if not is_integer(times, 1, 3 if fresh > 0 else 1):
            raise BadBook("times")
        if not is_integer(bonus, 0, 0 if fresh > 0 else 5):
            raise BadBook("bonus")
        phases = 2 if bonus > 0 else fresh + 1
        if (high - low + 1) * phases > MOST_PLACES:
            raise TooMany(MOST_PLACES)
        self.low = low
        self.high = high
        self.table = tuple(table)
        self.fresh = fresh
        self.times = times
        self.bonus = bonus
        self._places = tuple([(rating, phase) for rating in range(low, high + 1) for phase in range(phases)])

    def __eq__(self, other):
        return (isinstance(other, Book) and self.low == other.low and self.high == other.high
                and self.table == other.table and self.fresh == other.fresh
                and self.times == other.times and self.bonus == other.bonus)

    def __len__(self):
        return len(self._places)

    def __contains__(self, x):
        """Whether any value is a place of the book."""
        return isinstance(x, tuple) and all([is_whole(part) for part in x]) and x in self._places

    def __getitem__(self, at):
        """The row that holds for a difference."""
        return row_at(self.table, at)

    def __iter__(self):
        raise TypeError("a book cannot be iterated")

    def places(self):
        """The ascending list of the places."""
        return list(self._places)

    def start(self, rating):
        """The place of a newcomer with a rating."""
        if not is_integer(rating, self.low, self.high):
            raise BadPlace(rating)
        return (rating, self.fresh)

    def game(self, upper, lower, result):
        """The places of both behind a game, or None if it does not count."""
        if upper not in self:
            raise BadPlace(upper)
        if lower not in self:
            raise BadPlace(lower)
        if not is_result(result):
            raise BadGame(result)
        if lower[0] > upper[0]:
            raise BadGame(lower)
        entry = self[upper[0] - lower[0]][1 + RESULTS.index(result)]
        if entry is None:
            return None
        return (self._behind(upper, entry[0], result == "upper"), self._behind(lower, entry[1], result == "lower"))

    def _behind(self, place, change, wins):
        """The place of one player behind a counted game with such a change in its entry."""
        rating, phase = place
        if self.bonus > 0:
            if wins and phase == 1:
                change = change + self.bonus
            left = 1 if wins else 0
        else:
            if phase > 0:
                change = change * self.times
            left = max(0, phase - 1)
        return (kept_within(rating + change, self.low, self.high), left)

    def changed(self, part, value):
        """The book with another part."""
        if not isinstance(part, str) or part not in PARTS:
            raise BadBook(part)
        parts = {"low": self.low, "high": self.high, "table": self.table,
                 "fresh": self.fresh, "times": self.times, "bonus": self.bonus}
        parts[part] = value
        return Book(parts["low"], parts["high"], parts["table"],
                    fresh=parts["fresh"], times=parts["times"], bonus=parts["bonus"])
