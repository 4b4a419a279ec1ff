"""Further moves: resets, fades and games of teams, and whether they feed a lift."""

from liftedladders.books import RESULTS, is_result, kept_within
from liftedladders.errors import BadBook, BadGame, BadNumber, BadPlace
from liftedladders.numbers import is_above, is_integer
from liftedladders.shares import greatest

LEAST_PART = 2
MOST_PART = 9


def moves_to(book, name, ratings):
    """The moves with a name of all places, ascending, whose ratings change to the told ones."""
    return [((place,), name, ((ratings[place[0]], place[1]),))
            for place in book.places() if ratings[place[0]] != place[0]]


def reset_moves(book, middle, part):
    """The moves by which ratings are reset toward a middle by a part."""
    if not is_integer(middle, book.low, book.high):
        raise BadPlace(middle)
    if not is_integer(part, LEAST_PART, MOST_PART):
        raise BadNumber(part)
    ratings = {}
    for rating in range(book.low, book.high + 1):
        if rating < middle:
            ratings[rating] = middle - (middle - rating) // part
        else:
            ratings[rating] = middle + (rating - middle) // part
    return moves_to(book, "reset", ratings)


def fade_moves(book, above):
    """The moves by which ratings above one fade."""
    if not is_integer(above, book.low, book.high):
        raise BadPlace(above)
    ratings = {rating: rating - 1 if rating > above else rating for rating in range(book.low, book.high + 1)}
    return moves_to(book, "fade", ratings)


def check_plain(book):
    """Raises BadBook for a book with newcomers or a bonus: it has no teams."""
    if book.fresh > 0:
        raise BadBook("fresh")
    if book.bonus > 0:
        raise BadBook("bonus")


def is_team(book, value):
    """Whether any value is a team of places of the book."""
    if not isinstance(value, tuple) or len(value) != 2:
        return False
    return value[0] in book and value[1] in book and value[0] <= value[1]


def rating_of(team):
    """The rating of a team."""
    return (team[0][0] + team[1][0]) // 2


def shared_out(book, team, change):
    """The two places of a team behind its change."""
    half = -(-change // 2) if change < 0 else change // 2
    first, second = team
    return ((kept_within(first[0] + change - half, book.low, book.high), first[1]),
            (kept_within(second[0] + half, book.low, book.high), second[1]))


def team_behind(book, upper, lower, entry):
    """The four places behind a game of two teams with such an entry."""
    return shared_out(book, upper, entry[0]) + shared_out(book, lower, entry[1])


def team_game(book, upper, lower, result):
    """The four places behind a game of two teams, or None if it does not count."""
    check_plain(book)
    if not is_team(book, upper):
        raise BadPlace(upper)
    if not is_team(book, lower):
        raise BadPlace(lower)
    if not is_result(result):
        raise BadGame(result)
    difference = rating_of(upper) - rating_of(lower)
    if difference < 0:
        raise BadGame(lower)
    entry = book[difference][1 + RESULTS.index(result)]
    return None if entry is None else team_behind(book, upper, lower, entry)


def team_moves(book):
    """The moves of all counted games of two teams."""
    check_plain(book)
    places = book.places()
    teams = [(first, second) for at, first in enumerate(places) for second in places[at:]]
    rows = [book[difference] for difference in range(book.high - book.low + 1)]
    for upper in teams:
        for lower in teams:
            difference = rating_of(upper) - rating_of(lower)
            if difference < 0:
                continue
            for result, entry in zip(RESULTS, rows[difference][1:]):
                if entry is not None:
                    yield (upper + lower, result, team_behind(book, upper, lower, entry))


def feeds(ways, more, start, worths):
    """Whether the greatest mean worth is greater with more moves."""
    longer = ways + more
    return is_above(greatest(longer, start, worths), greatest(ways, start, worths))
