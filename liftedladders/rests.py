"""Rows of results of two players, told again and again."""

from liftedladders.bouts import bout_behind, is_outcome
from liftedladders.errors import BadPlace, BadRow

MOST_RESULTS = 6


def check_row(row):
    """Raises BadRow for any value that is no list of one to six results."""
    if not isinstance(row, (list, tuple)) or not 1 <= len(row) <= MOST_RESULTS:
        raise BadRow(None)
    for index, outcome in enumerate(row):
        if not is_outcome(outcome):
            raise BadRow(index)


def check_pair(book, one, other):
    """Raises BadPlace for any values that are no places of the book."""
    if one not in book:
        raise BadPlace(one)
    if other not in book:
        raise BadPlace(other)


def behind_row(book, pair, row):
    """The pair of places behind one row."""
    for outcome in row:
        pair = bout_behind(book, pair[0], pair[1], outcome)
    return pair


def row_behind(book, one, other, row):
    """The places of both behind one row."""
    check_row(row)
    check_pair(book, one, other)
    return behind_row(book, (one, other), row)


def course(book, one, other, row):
    """The number of rows ahead of the first pair of places that comes again, and of rows until it does."""
    check_row(row)
    check_pair(book, one, other)
    pair = (one, other)
    rows_ahead = {}
    while pair not in rows_ahead:
        rows_ahead[pair] = len(rows_ahead)
        pair = behind_row(book, pair, row)
    lead = rows_ahead[pair]
    return (lead, len(rows_ahead) - lead)


def rests(book, one, other, row):
    """Whether, from some time on, the row leaves both where they are."""
    return course(book, one, other, row)[1] == 1


def behind_all(book, row):
    """The dict from all pairs of places, ascending, to the pairs behind one row."""
    places = book.places()
    return {(one, other): behind_row(book, (one, other), row) for one in places for other in places}


def restless(book, row):
    """The least pair of places from which the row goes round, or None."""
    check_row(row)
    behind = behind_all(book, row)
    late = behind
    rows = 1
    # Behind as many rows as there are pairs each pair has come again, so the row rests by then or never.
    while rows < len(behind):
        late = {pair: late[late[pair]] for pair in late}
        rows = rows * 2
    for pair in behind:
        if behind[late[pair]] != late[pair]:
            return pair
    return None


def resting(book, row):
    """The ascending list of the pairs of places that one row leaves where they are."""
    check_row(row)
    behind = behind_all(book, row)
    return [pair for pair in behind if behind[pair] == pair]
