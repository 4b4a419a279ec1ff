"""Ways: places, and moves of friends between them."""

from liftedladders.books import Book, MOST_PLACES, RESULTS
from liftedladders.errors import BadBook, BadMove, BadPlace, TooMany
from liftedladders.numbers import is_integer, is_whole

MOST_MOVES = 3000
SIZES = (1, 2, 4)


def is_place(value):
    """Whether any value is a tuple of one or more integers."""
    if not isinstance(value, tuple) or len(value) == 0:
        return False
    for part in value:
        if not is_whole(part):
            return False
    return True


def is_move(value):
    """Whether any value is a move, of any places."""
    if not isinstance(value, tuple) or len(value) != 3:
        return False
    ins, name, outs = value
    if not isinstance(ins, tuple) or not isinstance(name, str) or not isinstance(outs, tuple):
        return False
    if len(ins) not in SIZES or len(outs) != len(ins):
        return False
    return all([is_place(place) for place in ins + outs])


def read_places(places):
    """The ascending tuple of the told places."""
    if not isinstance(places, (list, tuple)) or len(places) == 0:
        raise BadPlace(None)
    known = {}
    for place in places:
        if not is_place(place) or place in known:
            raise BadPlace(place)
        known[place] = True
    if len(known) > MOST_PLACES:
        raise TooMany(MOST_PLACES)
    return tuple(sorted(set(places)))


def read_moves(known, moves):
    """The tuple of the told moves between known places."""
    if not isinstance(moves, (list, tuple)):
        raise BadMove(None)
    for index, move in enumerate(moves):
        if not is_move(move) or not all([place in known for place in move[0] + move[2]]):
            raise BadMove(index)
    if len(moves) > MOST_MOVES:
        raise TooMany(MOST_MOVES)
    return tuple(moves)


class Ways:
    """Places and the moves between them."""

    def __init__(self, places, moves):
        self._places = read_places(places)
        self._moves = read_moves(self._places, moves)

    def __eq__(self, other):
        return isinstance(other, Ways) and self._places == other._places and self._moves == other._moves

    def __len__(self):
        return len(self._moves)

    def __contains__(self, x):
        """Whether any value is one of the places."""
        return is_place(x) and x in self._places

    def __getitem__(self, at):
        """The move with an index."""
        if not is_integer(at, 0, len(self._moves) - 1):
            raise BadMove(at)
        return self._moves[at]

    def __iter__(self):
        raise TypeError("ways cannot be iterated")

    def __add__(self, other):
        """The ways with a list of more moves behind."""
        more = read_moves(self._places, other)
        return Ways(self._places, self._moves + more)

    def places(self):
        """The ascending list of the places."""
        return list(self._places)

    def moves(self):
        """The list of the moves, in order."""
        return list(self._moves)

    def within(self, places):
        """The indexes of the moves all of whose ins are among some places."""
        among = {place for place in places if is_place(place)}
        return [index for index, move in enumerate(self._moves) if all([place in among for place in move[0]])]


def games_of(book):
    """The moves of a book: its counted games."""
    places = book.places()
    for upper in places:
        for lower in places:
            if lower[0] > upper[0]:
                continue
            for result in RESULTS:
                behind = book.game(upper, lower, result)
                if behind is not None:
                    yield ((upper, lower), result, behind)


def ways_of(book):
    """The ways of a book."""
    if not isinstance(book, Book):
        raise BadBook("book")
    moves = list(games_of(book))
    return Ways(book.places(), moves)
