"""Greatest mean worths, with batches, prices and lifts that show them."""

from math import lcm

from liftedladders.errors import BadMove, BadNumber, BadWorths, TooMany
from liftedladders.lots import told_worths
from liftedladders.numbers import added, is_above, is_fraction, is_integer, is_whole, less
from liftedladders.reaching import MOST_MADE, check_known, climb, friends_of, reached, times_made, written_out
from liftedladders.simplex import Simplex

MOST_WORTH = 999


def read_worths(ways, worths):
    """The worths of the places of some ways."""
    if not isinstance(worths, dict):
        raise BadWorths(None)
    told = told_worths(worths)
    for place in ways.places():
        if not is_integer(told.get(place), -MOST_WORTH, MOST_WORTH):
            raise BadWorths(place)
    return told


def taken_by(move, rows):
    """What a move takes away from the rows of its places: ascending tuples (row, number), none with 0."""
    taken = {}
    for place in move[0]:
        taken[rows[place]] = taken.get(rows[place], 0) + 1
    for place in move[2]:
        taken[rows[place]] = taken.get(rows[place], 0) - 1
    return tuple([(row, taken[row]) for row in sorted(set(taken)) if taken[row] != 0])


def columns_of(ways, places):
    """The dict from each reached place to its row, and the dict from what moves take away to the first such move."""
    rows = {place: row for row, place in enumerate(places)}
    moves = ways.moves()
    # Of moves that take the same away, the first one does for all.
    first = {}
    for index in ways.within(places):
        taken = taken_by(moves[index], rows)
        if taken and taken not in first:
            first[taken] = index
    return (rows, first)


def solved(ways, start, worths):
    """The reached places, the moves that were looked at by their indexes, and the Simplex over both."""
    places = reached(ways, start)
    rows, first = columns_of(ways, places)
    columns = list(first)
    indexes = [first[column] for column in columns]
    return (places, indexes, Simplex([worths[place] for place in places], columns, rows[start]))


def greatest(ways, start, worths):
    """The greatest mean worth from a start."""
    check_known(ways, start)
    _, _, simplex = solved(ways, start, read_worths(ways, worths))
    return simplex.optimum()


def batch_of(indexes, simplex):
    """The batch that a Simplex over moves with such indexes found."""
    times = {indexes[column]: amount for column, amount in simplex.amounts()}
    return [(index, times[index]) for index in sorted(set(times))]


def best_batch(ways, start, worths):
    """A batch with the greatest mean worth as its mean."""
    check_known(ways, start)
    _, indexes, simplex = solved(ways, start, read_worths(ways, worths))
    return batch_of(indexes, simplex)


def best_price(ways, start, worths):
    """A price with the greatest mean worth on the start."""
    check_known(ways, start)
    places, _, simplex = solved(ways, start, read_worths(ways, worths))
    prices = simplex.prices()
    return {place: prices[row] for row, place in enumerate(places)}


def share_at(ways, start, places):
    """The greatest mean worth with 1 at some places and 0 elsewhere."""
    check_known(ways, start)
    worths = {place: 0 for place in ways.places()}
    for place in places:
        check_known(ways, place)
        worths[place] = 1
    return greatest(ways, start, worths)


def has_batch_form(value, indexes):
    """Whether any value is a list of tuples (index, fraction above 0), ascending, with some of the indexes."""
    if not isinstance(value, list):
        return False
    among = {index: True for index in indexes}
    last = -1
    for entry in value:
        if not isinstance(entry, tuple) or len(entry) != 2:
            return False
        index, times = entry
        if not is_whole(index) or index <= last or index not in among:
            return False
        if not is_fraction(times) or times[0] < 1:
            return False
        last = index
    return True


def rest_behind(ways, start, value):
    """The rest of any value that is a batch, None for any other one."""
    places = reached(ways, start)
    if not has_batch_form(value, ways.within(places)):
        return None
    rest = {place: (0, 1) for place in places}
    rest[start] = (1, 1)
    moves = ways.moves()
    for index, times in value:
        ins, _, outs = moves[index]
        for place in ins:
            rest[place] = less(rest[place], times)
        for place in outs:
            rest[place] = added(rest[place], times)
    return rest if all([rest[place][0] >= 0 for place in places]) else None


def rest_of(ways, start, batch):
    """The rest of a batch."""
    check_known(ways, start)
    rest = rest_behind(ways, start, batch)
    if rest is None:
        raise BadMove(None)
    return rest


def made_whole(batch):
    """The least number by which all times of a batch are integers, and the list (index, times) by it."""
    whole = 1
    for _, times in batch:
        whole = lcm(whole, times[1])
    return (whole, [(index, times[0] * (whole // times[1])) for index, times in batch])


def stock(ways, start, whole, made):
    """How many friends bring somebody to each in of a whole batch, and the list (index, times) of their moves.

    So many friends as one batch needs begin at the start each time; only what it needs beyond is in stock.
    """
    wanted = {start: -whole}
    for index, times in made:
        for place in ways[index][0]:
            wanted[place] = wanted.get(place, 0) + times
    friends = 0
    moves = []
    for place in sorted(set(wanted)):
        if wanted[place] > 0:
            way = climb(ways, start, place)
            friends = friends + wanted[place] * friends_of(ways, start, way)
            for entry, times in zip(way, times_made(ways, start, way)):
                moves.append((entry[1], times * wanted[place]))
    return (friends, moves)


def worth_of(ways, start, worths, friends, made):
    """The worths together, behind moves (index, times), of so many friends who began at the start."""
    together = friends * worths[start]
    for index, times in made:
        ins, _, outs = ways[index]
        gain = sum([worths[place] for place in outs]) - sum([worths[place] for place in ins])
        together = together + times * gain
    return together


def lift(ways, start, worths, mean):
    """So many friends at the start, and moves behind which their mean worth is above a fraction; or None."""
    check_known(ways, start)
    told = read_worths(ways, worths)
    if not is_fraction(mean):
        raise BadNumber(mean)
    if is_above((told[start], 1), mean):
        return (1, [])
    _, indexes, simplex = solved(ways, start, told)
    if not is_above(simplex.optimum(), mean):
        return None
    whole, made = made_whole(batch_of(indexes, simplex))
    friends, first = stock(ways, start, whole, made)
    over, under = mean
    lack = over * friends - under * worth_of(ways, start, told, friends, first)
    gain = under * worth_of(ways, start, told, whole, made) - over * whole
    rounds = max(0, lack // gain + 1)
    many = sum([times for _, times in first]) + rounds * sum([times for _, times in made])
    if many > MOST_MADE:
        raise TooMany(MOST_MADE)
    return (friends + rounds * whole, written_out(ways, first) + written_out(ways, made) * rounds)
