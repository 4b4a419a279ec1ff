"""Which books are alike for newcomers with a rating, and games that show that two are not."""

from liftedladders.books import RESULTS
from liftedladders.errors import BadPlace, TooMany
from liftedladders.numbers import is_integer

MOST_PLAYED = 20000


class BothBooks:
    """Two books in which the same games are played.

    A seat is where a player is in both at once: a tuple (rating, phase in one, phase in the other). As long as
    ratings are the same in both, each player has one.
    """

    def __init__(self, one, other, rating):
        self._one = one
        self._other = other
        self.first = (rating, one.start(rating)[1], other.start(rating)[1])

    def behind(self, upper, lower, result):
        """The tuple (kind, seats) of a game: how the books are unlike by it, or None, and then both seats behind it.

        The seats are None if it counts in none.
        """
        told = self._one.game((upper[0], upper[1]), (lower[0], lower[1]), result)
        also = self._other.game((upper[0], upper[2]), (lower[0], lower[2]), result)
        if told is None and also is None:
            return (None, None)
        if told is None or also is None:
            return ("counts", None)
        if told[0][0] != also[0][0] or told[1][0] != also[1][0]:
            return ("ratings", None)
        return (None, (told[0] + (also[0][1],), told[1] + (also[1][1],)))


def least_of(pending):
    """The first seat with the fewest games, of a dict that is not empty."""
    least = None
    for seat in pending:
        if least is None or pending[seat][0] < pending[least][0]:
            least = seat
    return least


def pairs_with(seat, seats):
    """The tuples (upper, lower) of a seat and each one of some seats, itself among them, in all orders that can be."""
    pairs = []
    for other in seats:
        if seat[0] >= other[0]:
            pairs.append((seat, other))
        if other[0] >= seat[0] and other != seat:
            pairs.append((other, seat))
    return pairs


def searched(both):
    """The least tuple (games, kind, upper, lower, result) by which the books are unlike, or None; and the seats.

    For each seat, the fewest games by which a player comes to it, all players' games played anew, and the game
    (upper, lower, result, at) that is the last of them: at tells which of both comes to the seat. Seats come by
    these numbers, so nothing that is found later needs fewer games.
    """
    found = {}
    pending = {both.first: (0, None)}
    unlike = None
    while pending:
        seat = least_of(pending)
        if unlike is not None and unlike[0] <= pending[seat][0] + 1:
            break
        found[seat] = pending[seat]
        del pending[seat]
        for upper, lower in pairs_with(seat, list(found)):
            games = found[upper][0] + found[lower][0] + 1
            for result in RESULTS:
                kind, seats = both.behind(upper, lower, result)
                if kind is not None and (unlike is None or games < unlike[0]):
                    unlike = (games, kind, upper, lower, result)
                if seats is not None:
                    for at, behind in enumerate(seats):
                        if behind not in found and (behind not in pending or games < pending[behind][0]):
                            pending[behind] = (games, (upper, lower, result, at))
    return (unlike, found)


def check_rating(one, other, rating):
    """Raises BadPlace for any value that is no rating of both books."""
    for book in (one, other):
        if not is_integer(rating, book.low, book.high):
            raise BadPlace(rating)


def are_alike(one, other, rating):
    """Whether two books are alike for newcomers with a rating."""
    check_rating(one, other, rating)
    return searched(BothBooks(one, other, rating))[0] is None


def brought(found, seat, games, first):
    """The number of a player who comes to a seat by games that are put behind the others, and the next free number.

    All players of these games are new ones: their numbers begin with the first one.
    """
    last = found[seat][1]
    if last is None:
        return (first, first + 1)
    upper, lower, result, at = last
    one, free = brought(found, upper, games, first)
    other, free = brought(found, lower, games, free)
    games.append((one, other, result))
    return (one if at == 0 else other, free)


def first_unlike(one, other, rating):
    """Games by the last of which two books are unlike, and how; None if they are alike."""
    check_rating(one, other, rating)
    unlike, found = searched(BothBooks(one, other, rating))
    if unlike is None:
        return None
    many, kind, upper, lower, result = unlike
    if many > MOST_PLAYED:
        raise TooMany(MOST_PLAYED)
    games = []
    first, free = brought(found, upper, games, 0)
    second, _ = brought(found, lower, games, free)
    games.append((first, second, result))
    return (games, kind)
