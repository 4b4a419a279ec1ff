"""Told games, and the tables that explain them."""

from liftedladders.books import MOST_CHANGE, MOST_RATING, RESULTS, is_entry, is_result, kept_within, row_at
from liftedladders.errors import BadGame, BadNumber, BadTold
from liftedladders.numbers import ascends, is_integer, is_whole

# A span tells the entries (a, b) of one result: the least and the greatest a, the least and the greatest b.
ALL_ENTRIES = (-9, 9, -9, 9)


def is_told_game(low, high, value):
    """Whether any value is a told game."""
    if not isinstance(value, tuple) or len(value) != 5:
        return False
    upper, lower, result, upper_behind, lower_behind = value
    ratings = (upper, lower, upper_behind, lower_behind)
    if not is_result(result) or not all([is_integer(rating, low, high) for rating in ratings]):
        return False
    return upper >= lower and abs(upper_behind - upper) <= MOST_CHANGE and abs(lower_behind - lower) <= MOST_CHANGE


def check_told_games(low, high, games):
    """Raises the errors of the bounds and the told games."""
    if not is_integer(low, 0, MOST_RATING):
        raise BadNumber(low)
    if not is_integer(high, low, MOST_RATING):
        raise BadNumber(high)
    if not isinstance(games, (list, tuple)):
        raise BadTold(None)
    for index, game in enumerate(games):
        if not is_told_game(low, high, game):
            raise BadTold(index)


def is_told_row(value):
    """Whether any value is a border and three entries."""
    if not isinstance(value, tuple) or len(value) != 4 or not is_whole(value[0]):
        return False
    return all([entry is not None and is_entry(entry) for entry in value[1:]])


def is_told_table(value):
    """Whether any value is a list of rows with ascending borders from 0 on."""
    if not isinstance(value, list) or len(value) == 0 or not all([is_told_row(row) for row in value]):
        return False
    return value[0][0] == 0 and ascends([row[0] for row in value])


def explains(low, high, games, table):
    """Whether any value is a table that explains the told games."""
    check_told_games(low, high, games)
    if not is_told_table(table):
        return False
    rows = [row_at(table, difference) for difference in range(high - low + 1)]
    for upper, lower, result, upper_behind, lower_behind in games:
        change, other = rows[upper - lower][1 + RESULTS.index(result)]
        if kept_within(upper + change, low, high) != upper_behind:
            return False
        if kept_within(lower + other, low, high) != lower_behind:
            return False
    return True


def bounds(low, high, ahead, behind):
    """The least and the greatest change by which one rating becomes another one."""
    least = -MOST_CHANGE if behind == low else behind - ahead
    most = MOST_CHANGE if behind == high else behind - ahead
    return (least, most)


def span_of(low, high, game):
    """The span of the entries that explain a told game."""
    upper, lower, _, upper_behind, lower_behind = game
    return bounds(low, high, upper, upper_behind) + bounds(low, high, lower, lower_behind)


def narrowed(one, other):
    """The span of the entries of both spans, or None."""
    least = one[0] if one[0] > other[0] else other[0]
    most = one[1] if one[1] < other[1] else other[1]
    least_other = one[2] if one[2] > other[2] else other[2]
    most_other = one[3] if one[3] < other[3] else other[3]
    return None if least > most or least_other > most_other else (least, most, least_other, most_other)


def narrowed_row(one, other):
    """The spans of the three results of both rows of spans, or None."""
    spans = [narrowed(span, further) for span, further in zip(one, other)]
    return None if None in spans else spans


def told_rows(low, high, games):
    """The dict from the told differences, ascending, to the spans of the three results; None if one has no entry."""
    rows = {upper - lower: [ALL_ENTRIES] * 3 for upper, lower, _, _, _ in games}
    for game in games:
        row = rows[game[0] - game[1]]
        at = RESULTS.index(game[2])
        span = narrowed(row[at], span_of(low, high, game))
        if span is None:
            return None
        row[at] = span
    return {difference: rows[difference] for difference in sorted(set(rows))}


def joined_rows(rows):
    """The dict from (first, last), places in the row of told differences, to the spans of one row for all of them."""
    differences = list(rows)
    joined = {}
    for first, difference in enumerate(differences):
        row = rows[difference]
        last = first
        while row is not None:
            joined[(first, last)] = row
            last += 1
            row = narrowed_row(row, rows[differences[last]]) if last < len(differences) else None
    return joined


def greedy_rows(rows):
    """The list of tuples (border, spans) of as few rows as possible."""
    joined = joined_rows(rows)
    differences = list(rows)
    told = []
    first = 0
    while first < len(differences):
        last = first
        while (first, last + 1) in joined:
            last += 1
        told.append((0 if first == 0 else differences[first], joined[(first, last)]))
        first = last + 1
    return told if told else [(0, [ALL_ENTRIES] * 3)]


def fewest_rows(low, high, games):
    """The least number of rows of a table that explains the told games, or None."""
    check_told_games(low, high, games)
    rows = told_rows(low, high, games)
    return None if rows is None else len(greedy_rows(rows))


def entry_of(span):
    """An entry of a span: changes as near to 0 as they can be."""
    return (kept_within(0, span[0], span[1]), kept_within(0, span[2], span[3]))


def told_table(low, high, games):
    """A table with as few rows as possible that explains the told games, or None."""
    check_told_games(low, high, games)
    rows = told_rows(low, high, games)
    if rows is None:
        return None
    return [(border, *[entry_of(span) for span in spans]) for border, spans in greedy_rows(rows)]


def unlike_games(low, high, games):
    """The pairs of indexes of games of one difference and one result that no entry explains both."""
    check_told_games(low, high, games)
    alike = {}
    for index, game in enumerate(games):
        alike.setdefault((game[0] - game[1], game[2]), []).append((index, span_of(low, high, game)))
    pairs = [(one, other) for group in alike.values() for at, (other, span) in enumerate(group)
             for one, earlier in group[:at] if narrowed(earlier, span) is None]
    return sorted(set(pairs))


def row_counts(joined, many):
    """For each number of told differences, from none to all, the fewest rows for the first ones."""
    counts = [0]
    for last in range(many):
        counts.append(1 + min([int(counts[first]) for first in range(last + 1) if (first, last) in joined]))
    return counts


def spans_at(rows, difference, result):
    """The spans that the rows for a difference have for a result, in all tables with the fewest rows."""
    if not rows:
        return [ALL_ENTRIES]
    joined = joined_rows(rows)
    differences = list(rows)
    many = len(differences)
    ahead = row_counts(joined, many)
    turned = {(many - 1 - last, many - 1 - first): True for first, last in joined}
    behind = row_counts(turned, many)
    spans = {}
    for first, last in joined:
        if ahead[first] + 1 + behind[many - 1 - last] > ahead[many]:
            continue
        # A border stands anywhere behind the last difference of the row ahead, and up to the first one of its own.
        after = first == 0 or difference > differences[first - 1]
        if after and (last == many - 1 or difference < differences[last + 1]):
            spans[joined[(first, last)][RESULTS.index(result)]] = True
    return list(spans)


def ratings_behind(low, high, rating, least, most):
    """The ratings behind the changes from the least to the greatest one."""
    return sorted(set([kept_within(rating + change, low, high) for change in range(least, most + 1)]))


def may_follow(low, high, games, upper, lower, result):
    """The ratings behind a further game by the tables with the fewest rows that explain the games, or None."""
    check_told_games(low, high, games)
    if not is_integer(upper, low, high):
        raise BadGame(upper)
    if not is_integer(lower, low, upper):
        raise BadGame(lower)
    if not is_result(result):
        raise BadGame(result)
    rows = told_rows(low, high, games)
    if rows is None:
        return None
    pairs = {}
    for least, most, least_other, most_other in spans_at(rows, upper - lower, result):
        others = ratings_behind(low, high, lower, least_other, most_other)
        for one in ratings_behind(low, high, upper, least, most):
            for other in others:
                pairs[(one, other)] = True
    return sorted(set(pairs))
