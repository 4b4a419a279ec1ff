"""Chances of players with strengths, and how one who chooses the opponents does best."""

from math import lcm

from liftedladders.books import RESULTS, row_at
from liftedladders.errors import BadChances, BadNumber, BadOpponent, BadPlace, BadPlan, UnknownPlace
from liftedladders.numbers import added, fraction, is_fraction, is_integer, is_whole, less, multiplied
from liftedladders.ways import is_place

MOST_STRENGTH = 99
MOST_ROWS = 6
MOST_GAMES = 12


def is_chance(value):
    """Whether any value is a fraction from 0 to 1."""
    return is_fraction(value) and 0 <= value[0] <= value[1]


def is_chances_row(value):
    """Whether any value is a row of chances."""
    if not isinstance(value, tuple) or len(value) != 4 or not is_integer(value[0], 0, MOST_STRENGTH):
        return False
    if not all([is_chance(chance) for chance in value[1:]]):
        return False
    return added(added(value[1], value[2]), value[3]) == (1, 1)


def check_strength(value):
    """Raises BadNumber for any value that is no strength."""
    if not is_integer(value, 0, MOST_STRENGTH):
        raise BadNumber(value)


class Chances:
    """By the difference of two strengths, the chances of the results."""

    def __init__(self, rows):
        if not isinstance(rows, (list, tuple)) or not 1 <= len(rows) <= MOST_ROWS:
            raise BadChances(None)
        last = -1
        for index, row in enumerate(rows):
            if not is_chances_row(row) or row[0] <= last or (index == 0 and row[0] != 0):
                raise BadChances(index)
            last = row[0]
        self._rows = tuple(rows)

    def __eq__(self, other):
        return isinstance(other, Chances) and self._rows == other._rows

    def __len__(self):
        return len(self._rows)

    def __call__(self, one, other):
        """The chances that one with a strength wins, draws and loses against one with another strength."""
        check_strength(one)
        check_strength(other)
        _, win, draw, loss = row_at(self._rows, abs(one - other))
        if one == other:
            half = multiplied((1, 2), less((1, 1), draw))
            return (half, draw, half)
        return (win, draw, loss) if one > other else (loss, draw, win)

    def rows(self):
        """The list of the rows."""
        return list(self._rows)


def outcomes(book, chances, place, strength, opponent):
    """The list of the tuples (chance, the player's place behind) of one game, for winning, drawing and losing."""
    other, others = opponent
    if other[0] > place[0]:
        seat = 1
        ends = [book.game(other, place, result) for result in RESULTS[::-1]]
    else:
        seat = 0
        ends = [book.game(place, other, result) for result in RESULTS]
    return [(chance, place if behind is None else behind[seat])
            for chance, behind in zip(chances(strength, others), ends)]


def mean_change(place, games):
    """The mean change of the rating by a game with such outcomes."""
    mean = (0, 1)
    for (over, under), behind in games:
        mean = added(mean, fraction(over * (behind[0] - place[0]), under))
    return mean


def drift(book, chances, place, strength, other, others):
    """The mean change of the rating of a player in one game against another one."""
    if place not in book:
        raise UnknownPlace(place)
    if other not in book:
        raise UnknownPlace(other)
    return mean_change(place, outcomes(book, chances, place, strength, (other, others)))


def is_opponent(book, value):
    """Whether any value is a place of the book and a strength."""
    if not isinstance(value, tuple) or len(value) != 2:
        return False
    return value[0] in book and is_integer(value[1], 0, MOST_STRENGTH)


def check_opponents(book, strength, opponents):
    """Raises the errors of the opponents, then of the strength."""
    if not isinstance(opponents, (list, tuple)):
        raise BadOpponent(None)
    for index, opponent in enumerate(opponents):
        if not is_opponent(book, opponent):
            raise BadOpponent(index)
    check_strength(strength)


def turn_at(book, chances, strength, opponents, rating):
    """1 where one with a rating and phase 0 rises, -1 where one falls, 0 where one rests."""
    place = (rating, 0)
    drifts = [mean_change(place, outcomes(book, chances, place, strength, opponent)) for opponent in opponents]
    if any([over > 0 for over, _ in drifts]):
        return 1
    return -1 if drifts and all([over < 0 for over, _ in drifts]) else 0


def turns(book, chances, strength, opponents):
    """The dict from all ratings, ascending, to 1 where one rises, 0 where one rests, -1 where one falls."""
    check_opponents(book, strength, opponents)
    return {rating: turn_at(book, chances, strength, opponents, rating)
            for rating in range(book.low, book.high + 1)}


def summit(book, chances, strength, opponents, rating):
    """The first rating from one rating up at which one does not rise, or the greatest rating."""
    check_opponents(book, strength, opponents)
    if not is_integer(rating, book.low, book.high):
        raise BadPlace(rating)
    for at in range(rating, book.high):
        if turn_at(book, chances, strength, opponents, at) < 1:
            return at
    return book.high


def check_games(book, place, strength, opponents, games):
    """Raises the errors of playing at most so many games against opponents."""
    check_opponents(book, strength, opponents)
    if place not in book:
        raise UnknownPlace(place)
    if not is_integer(games, 0, MOST_GAMES):
        raise BadNumber(games)


def weighed(book, chances, strength, opponents):
    """The least number by which all chances are integers, and for each place, for each opponent, the outcomes by it."""
    whole = 1
    for _, others in opponents:
        for _, under in chances(strength, others):
            whole = lcm(whole, under)
    table = {}
    for place in book.places():
        table[place] = []
        for opponent in opponents:
            told = outcomes(book, chances, place, strength, opponent)
            table[place].append([(over * (whole // under), behind) for (over, under), behind in told])
    return (whole, table)


def mean_behind(means, game):
    """The mean over the outcomes of a game, where the means behind it are told."""
    return sum([weight * means[behind] for weight, behind in game])


def best_planned(book, chances, strength, opponents, games):
    """A best plan and, for each place, the greatest mean rating behind so many games."""
    whole, table = weighed(book, chances, strength, opponents)
    plan = {}
    under = 1
    means = {place: place[0] for place in table}
    for left in range(1, games + 1):
        under = under * whole
        ahead = means
        means = {}
        for place in table:
            means[place] = place[0] * under
            plan[(left, place)] = None
            for index, game in enumerate(table[place]):
                mean = mean_behind(ahead, game)
                if mean > means[place]:
                    means[place] = mean
                    plan[(left, place)] = index
    return (plan, {place: fraction(means[place], under) for place in means})


def greatest_mean(book, chances, place, strength, opponents, games):
    """The greatest mean rating that one can have behind at most so many games."""
    check_games(book, place, strength, opponents, games)
    return best_planned(book, chances, strength, opponents, games)[1][place]


def best_plan(book, chances, place, strength, opponents, games):
    """A plan with the greatest mean rating."""
    check_games(book, place, strength, opponents, games)
    return best_planned(book, chances, strength, opponents, games)[0]


def read_plan(book, opponents, games, plan):
    """What a plan tells for each number of games that are left and each place."""
    if not isinstance(plan, dict):
        raise BadPlan(None)
    # A key such as (True, (0, 0)) is equal to (1, (0, 0)) for Python, but it is no key of a plan.
    told = {key: plan[key] for key in plan
            if isinstance(key, tuple) and len(key) == 2 and is_whole(key[0]) and is_place(key[1])}
    for left in range(1, games + 1):
        for place in book.places():
            key = (left, place)
            if key not in told:
                raise BadPlan(key)
            if told[key] is not None and not is_integer(told[key], 0, len(opponents) - 1):
                raise BadPlan(key)
    return told


def mean_of(book, chances, place, strength, opponents, games, plan):
    """The mean rating behind a plan."""
    check_games(book, place, strength, opponents, games)
    told = read_plan(book, opponents, games, plan)
    whole, table = weighed(book, chances, strength, opponents)
    under = 1
    means = {at: at[0] for at in table}
    for left in range(1, games + 1):
        under = under * whole
        ahead = means
        means = {}
        for at in table:
            index = told[(left, at)]
            means[at] = at[0] * under if index is None else mean_behind(ahead, table[at][index])
    return fraction(means[place], under)
